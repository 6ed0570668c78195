import PyProof.Rows.All
import Wide.All
import OpenK.AllK
import Wide.FinOn
import HandS.ForMost
import HandS.TupSets
import KE.GoesMore
import KE.GoesEnum
import PyProof.ListStr
import HandS.SetKeys
import HandS.Conv
import PyProof.DictMoreH
import HandS.Walk
import HandS.Wide
import HandS.Codes
import HandS.Zip
import HandS.IsInst
import HandS.Defaults
import HandS.MakeKwOnly
import HandS.Exc
import HandS.TryOnly
import HandS.TryMany
import HandS.ExcField
import HandS.ExcInit
import HandS.WordsExc
import HandS.Lambda
import HandS.EndTab
import HandS.ExcOwn
import HandS.EndOwn
import KE.KNestM
import PySem.Challenge.RW_wardweb_k02_webs_refused
set_option Elab.async false
set_option linter.all false
set_option maxRecDepth 100000
/-! Sets of tuples, their items of any kind that is carried by value (ints and texts). -/
namespace Sg
open PySem PySem.Spec PyProof.Rows L2
theorem cls_item (n : Nat) {v : Value} (h : carriedByValue v = true) : ofAClassStatement n v = pure false := by
  cases v <;> first | (cases h; done) | (cases n <;> rfl)
theorem hash_item (n : Nat) {v : Value} (h : carriedByValue v = true) : ∃ b, hashByValue n v = pure b := by
  cases v <;> first | (cases h; done) | (cases n <;> exact ⟨_, rfl⟩)
section
variable {P : Program} {w : World} {κ : Type} [DecidableEq κ] {knd : KeyKind P w κ} {A : Around} {E : Value → Shared → Prop} {s : Shared}
/-- no class statement stands behind such a tuple -/
theorem cls_tup {k : List κ} {b : Addr} {Q : Bool → Shared → Prop} (hk : IsTupleKey knd s.heap k b) (h : Q false s) : wpAny (model P w) A (ofAClassStatement 8 (.ref b)) Q E s := by
  have ty := hk.typeIs
  obtain ⟨o, its, n, ho, _, hd, hi⟩ := hk
  have bv := hi.byValue
  unfold ofAClassStatement
  refine wpAny_bind (wpAny_typeOf ty ?_)
  have e : (("tuple" : String) == "tuple") = true := by decide
  dsimp only
  simp only [e, if_true, Bool.not_true, Bool.false_eq_true, if_false]
  try refine wpAny_bind (wpAny_pure ?_)
  try simp only [Bool.not_true, Bool.false_eq_true, if_false]
  show wpAny _ _ (seqItems? (.ref b) >>= _) _ _ s
  refine wpAny_bind (wpAny_seqItems ho hd ?_)
  dsimp only
  refine wpAny_bind ?_
  show wpAny _ _ (forIn its _ _) _ _ s
  rw [← Array.forIn_toList]
  refine wpAny_forIn_list _ (fun left acc s' => acc.1 = none ∧ s' = s ∧ ∀ v ∈ left, carriedByValue v = true) _ ?_ ?_ _ _ ⟨rfl, rfl, bv⟩
  · rintro v left acc s' ⟨ha, rfl, hv⟩
    rw [cls_item 7 (hv v List.mem_cons_self)]
    refine wpAny_bind (wpAny_pure ?_)
    simp only [Bool.false_eq_true, if_false]
    exact wpAny_pure ⟨rfl, rfl, fun u hu => hv u (List.mem_cons_of_mem _ hu)⟩
  · rintro ⟨a1, a2⟩ s' ⟨ha, rfl, _⟩
    simp only at ha
    subst ha
    exact wpAny_pure h
/-- whether its hash goes by value is told, either way -/
theorem hash_tup {k : List κ} {b : Addr} {Q : Bool → Shared → Prop} (hk : IsTupleKey knd s.heap k b) (h : ∀ y, Q y s) : wpAny (model P w) A (hashByValue 8 (.ref b)) Q E s := by
  have ty := hk.typeIs
  obtain ⟨o, its, n, ho, _, hd, hi⟩ := hk
  have bv := hi.byValue
  unfold hashByValue
  refine wpAny_bind (wpAny_specialOf ty F.slot_tuple_hash.lookup ?_)
  show wpAny _ _ (seqItems? (.ref b) >>= _) _ _ s
  refine wpAny_bind (wpAny_seqItems ho hd ?_)
  refine wpAny_bind ?_
  show wpAny _ _ (forIn its _ _) _ _ s
  rw [← Array.forIn_toList]
  refine wpAny_forIn_list _ (fun left acc s' => (acc.1 = none ∨ acc.1 = some false) ∧ s' = s ∧ ∀ v ∈ left, carriedByValue v = true) _ ?_ ?_ _ _ ⟨.inl rfl, rfl, bv⟩
  · rintro v left acc s' ⟨ha, rfl, hv⟩
    obtain ⟨y, ey⟩ := hash_item 7 (hv v List.mem_cons_self)
    rw [ey]
    refine wpAny_bind (wpAny_pure ?_)
    cases y with
    | true =>
      simp only [Bool.not_true, Bool.false_eq_true, if_false]
      exact wpAny_pure ⟨.inl rfl, rfl, fun u hu => hv u (List.mem_cons_of_mem _ hu)⟩
    | false =>
      simp only [Bool.not_false, if_true]
      exact wpAny_pure (wpAny_pure (h _))
  · rintro ⟨a1, a2⟩ s' ⟨ha, rfl, _⟩
    simp only at ha
    rcases ha with rfl | rfl
    · exact wpAny_pure (h _)
    · exact wpAny_pure (h _)
/-- a look for it among such tuples shows nothing -/
theorem look_tup {k : List κ} {b : Addr} {Q : Bool → Shared → Prop} (hk : IsTupleKey knd s.heap k b) {ys : List Value} (hy : ∀ y ∈ ys, ∃ k' c, y = Value.ref c ∧ IsTupleKey knd s.heap k' c) (h : Q false s) : wpAny (model P w) A (searchCouldBeSeen (.ref b) ys) Q E s := by
  unfold searchCouldBeSeen
  refine wpAny_bind ?_
  refine wpAny_forIn_list _ (fun left acc s' => acc.1 = none ∧ s' = s ∧ ∀ y ∈ left, ∃ k' c, y = Value.ref c ∧ IsTupleKey knd s.heap k' c) _ ?_ ?_ _ _ ⟨rfl, rfl, hy⟩
  · rintro v left acc s' ⟨ha, rfl, hv⟩
    obtain ⟨k', c, rfl, hc⟩ := hv v List.mem_cons_self
    have more := fun u hu => hv u (List.mem_cons_of_mem (a := u) _ hu)
    dsimp only
    by_cases z : (b == c || (carriedByValue (.ref b) && carriedByValue (.ref c))) = true
    · exact wp_if_pos z (wpAny_pure ⟨rfl, rfl, more⟩)
    · refine wp_if_neg z (wpAny_bind (wpAny_eqIsQuiet_tuple hk ?_))
      simp only [Bool.not_true, Bool.false_eq_true, if_false]
      refine wpAny_bind (wpAny_eqIsQuiet_tuple hc ?_)
      simp only [Bool.not_true, Bool.false_eq_true, if_false]
      refine wpAny_bind (cls_tup hk ?_)
      simp only [Bool.false_eq_true, if_false]
      refine wpAny_bind (cls_tup hc ?_)
      simp only [Bool.false_eq_true, if_false]
      exact wpAny_pure ⟨rfl, rfl, more⟩
  · rintro ⟨a1, a2⟩ s' ⟨ha, rfl, _⟩
    simp only at ha
    subst ha
    exact wpAny_pure h
end
end Sg
namespace Sg
open PySem PySem.Spec PyProof.Rows L2
section
variable {P : Program} {w : World} {κ : Type} [DecidableEq κ] (knd : KeyKind P w κ)
/-- the entries of a set that holds the tuples of L -/
def ents (L : List (Addr × List κ)) : List (Int × Value) := L.map fun p => (tupleKeyHash knd p.2, Value.ref p.1)
def hashes (L : List (Addr × List κ)) : List Int := L.map fun p => tupleKeyHash knd p.2
structure Hs (h : Heap) (a : Addr) (L : List (Addr × List κ)) (es : Array (Int × Value)) (ep : Nat) (t : SetTable) : Prop where
  ob : ∃ o, h.get? a = some o ∧ o.ExactSet ∧ o.data = .set es ep t
  en : es.toList = ents knd L
  tab : TabOk t (hashes knd L)
  nd : (L.map (·.2)).Nodup
  tup : ∀ p ∈ L, IsTupleKey knd h p.2 p.1
  led : w.params.followText "set-order" = true ∨ t.led = true
  room : L.length * 5 < t.mask * 3
  few : L.length < 64
end
section
variable {P : Program} {w : World} {κ : Type} [DecidableEq κ] {knd : KeyKind P w κ} {A : Around} {E : Value → Shared → Prop} {s : Shared} {a : Addr} {L : List (Addr × List κ)} {es : Array (Int × Value)} {ep : Nat} {t : SetTable}
theorem hashes_len : (hashes knd L).length = L.length := List.length_map _
theorem size_of (h : es.toList = ents knd L) : es.size = L.length := by
  have z := congrArg List.length h
  rwa [Array.length_toList, show (ents knd L).length = L.length from List.length_map _] at z
theorem fits_of (T : TabOk t (hashes knd L)) (h : es.toList = ents knd L) (hr : L.length ≤ t.mask) : t.fits es.size = true := by
  have h1 := T.sz
  rw [hashes_len] at h1
  have h2 := size_of h
  unfold SetTable.fits SetTable.fill
  rw [T.dm, Bool.and_eq_true, beq_iff_eq, decide_eq_true_eq]
  show t.place.size = es.size ∧ t.place.size + 0 ≤ t.mask
  omega
theorem Hs.fits {h : Heap} (R : Hs knd h a L es ep t) : t.fits es.size = true := fits_of R.tab R.en (by have := R.room; omega)
theorem Hs.at {h : Heap} (R : Hs knd h a L es ep t) {i : Nat} {p : Addr × List κ} (e : L[i]? = some p) : es[i]? = some (tupleKeyHash knd p.2, Value.ref p.1) := by
  rw [← Array.getElem?_toList, R.en]
  unfold ents
  rw [List.getElem?_map, e]
  rfl
theorem Hs.ix {h : Heap} (R : Hs knd h a L es ep t) {i j : Nat} (e : t.place.toList[i]? = some j) : ∃ p, L[i]? = some p := by
  have h1 : i < t.place.toList.length := (List.getElem?_eq_some_iff.mp e).1
  have h2 := R.tab.sz
  rw [hashes_len] at h2
  rw [Array.length_toList] at h1
  exact ⟨L[i]'(by omega), List.getElem?_eq_getElem _⟩
/-- the search for a key, from the c-th place of its way on -/
theorem seek (R : Hs knd s.heap a L es ep t) {x : Addr} {k : List κ} (hx : IsTupleKey knd s.heap k x) (hu : A.units < cLine) {N : Nat} (hN : N < 10 * SetTable.turns t.mask) (hv : Int) (ehv : hv = tupleKeyHash knd k)
    (free : way t.mask hv N ∉ t.place.toList) (busy : ∀ c, c < N → way t.mask hv c ∈ t.place.toList) {Q : SetFound → Shared → Prop} (yes : k ∈ L.map (·.2) → Q (.there none) s) (no : k ∉ L.map (·.2) → Q (.free (way t.mask hv N) false) s) :
    ∀ (f c : Nat) (st : Option SetTable.Probe), st.getD (t.probeStart hv) = nth t.mask (runAt t.mask (SetTable.bits hv % (t.mask + 1)) (SetTable.bits hv)) c → c ≤ N → N - c < f →
      (∀ (i : Nat) p, L[i]? = some p → p.2 = k → ∃ c', c ≤ c' ∧ c' < N ∧ t.place.toList[i]? = some (way t.mask hv c')) → wpAny (model P w) A (setSearchFrom a (.ref x) hv true f st) Q E s
  | 0, _, _, _, _, z, _ => absurd z (Nat.not_lt_zero _)
  | f + 1, c, st, est, hc, hf, ahead => by
    obtain ⟨o, ho, hex, hd⟩ := R.ob
    rw [setSearchFrom_succ]
    refine wpAny_bind (wpAny_setState_of ho hd R.fits ?_)
    dsimp only
    refine wp_if_neg (by
      unfold SetTable.gaveWay
      rw [mask_odd R.tab.mok]
      decide) ?_
    try refine wpAny_bind (wpAny_pure ?_)
    generalize hr0 : runAt t.mask (SetTable.bits hv % (t.mask + 1)) (SetTable.bits hv) = r0 at est
    have dum : ∀ (n : Nat) (p : SetTable.Probe), p.dummy = none → (nth t.mask p n).dummy = none := by
      intro n
      induction n with
      | zero => exact fun p h => h
      | succ n ih =>
        intro p h
        refine ih (adv t.mask p) ?_
        unfold adv
        split <;> exact h
    have wy : ∀ m, way t.mask hv m = (nth t.mask r0 m).j := fun m => by rw [← hr0]
    have sh : ∀ m, nth t.mask (nth t.mask r0 c) m = nth t.mask r0 (c + m) := fun m => (nth_add t.mask c r0 m).symm
    have hj : ∀ m, (nth t.mask (nth t.mask r0 c) m).j = way t.mask hv (c + m) := fun m => by rw [sh, wy]
    have spec := go_spec t R.tab.ris R.tab.dm (fun i => (es[i]?.map (·.1)).getD 0) hv (10 * SetTable.turns t.mask) (N - c) (nth t.mask r0 c) (dum c r0 (by rw [← hr0]; rfl)) (by omega)
      (fun m hm => by rw [hj]; exact busy (c + m) (by omega)) (by rw [hj, show c + (N - c) = N by omega]; exact free)
    have ha : ∀ (i : Nat) p, L[i]? = some p → (fun i => (es[i]?.map (·.1)).getD 0) i = tupleKeyHash knd p.2 := fun i p e => by
      show (es[i]?.map (·.1)).getD 0 = _
      rw [R.at e]
      rfl
    rcases spec with ⟨m, i, hm, hi, hh, none', pr⟩ | ⟨none', pr⟩
    · have pr' : t.probe (fun i => (es[i]?.map (·.1)).getD 0) hv (st.getD (t.probeStart hv)) = some (.candidate (way t.mask hv (c + m)) i (nth t.mask r0 (c + (m + 1)))) := by
        rw [est, ← hj, ← sh]
        exact pr
      rw [pr']
      dsimp only
      rw [hj] at hi
      obtain ⟨p, hp⟩ := R.ix hi
      have hmem := List.mem_of_getElem? hp
      have go : wpAny (model P w) A (searchRest a (.ref x) hv true f es t (way t.mask hv (c + m)) i (nth t.mask r0 (c + (m + 1)))) Q E s := by
        unfold searchRest
        rw [R.at hp]
        dsimp only
        refine wpAny_bind (wpAny_holding (wpAny_eqBool_tuple hu (R.tup p hmem) hx ?_))
        refine wpAny_bind (wpAny_setState_of ho hd R.fits ?_)
        dsimp only
        by_cases hk : p.2 = k
        · exact wp_if_pos (by simp [hk]) (wpAny_pure (yes (List.mem_map.mpr ⟨p, hmem, hk⟩)))
        · refine wp_if_neg (by simp [hk]) ?_
          try refine wpAny_bind (wpAny_pure ?_)
          rw [sameMem]
          dsimp only
          have live : t.slot (way t.mask hv (c + m)) = .live i := slot_live R.tab.ris hi
          simp only [if_true, live, R.at hp]
          refine wpAny_bind (wpAny_isSame_ref_self (wpAny_bind (wpAny_pure ?_)))
          simp only [if_true]
          refine wp_if_neg (by simp [hk]) ?_
          refine seek R hx hu hN hv ehv free busy yes no f (c + (m + 1)) _ (by rw [hr0]; rfl) (by omega) (by omega) fun i0 p0 h0 hk0 => ?_
          obtain ⟨c', b1, b2, b3⟩ := ahead i0 p0 h0 hk0
          refine ⟨c', ?_, b2, b3⟩
          by_cases lt : c' < c + m
          · exact absurd ((ha i0 p0 h0).trans (by rw [hk0, ehv])) (none' (c' - c) i0 (by omega) (by rw [hj, show c + (c' - c) = c' by omega]; exact b3))
          · by_cases eq : c' = c + m
            · subst eq
              have s0 := slot_live R.tab.ris b3
              rw [live] at s0
              injection s0 with s0
              rw [← s0, hp] at h0
              exact absurd ((congrArg Prod.snd (Option.some.inj h0)).trans hk0) hk
            · omega
      by_cases hl : t.led = true
      · refine wp_if_neg (by simp [hl]) ?_
        try refine wpAny_bind (wpAny_pure ?_)
        exact go
      · refine wp_if_pos (by simp [hl]) (wpAny_bind (look_tup hx (fun y hy => ?_) ?_))
        · obtain ⟨e, he, ee⟩ := List.mem_map.mp hy
          have he1 : e ∈ es ∧ e.1 = hv := by simpa using he
          have he2 : e ∈ es.toList := by simpa using he1.1
          rw [R.en] at he2
          obtain ⟨p2, hp2, e2⟩ := List.mem_map.mp he2
          exact ⟨p2.2, p2.1, by rw [← ee, ← e2], R.tup p2 hp2⟩
        · refine wp_if_neg (by decide) ?_
          try refine wpAny_bind (wpAny_pure ?_)
          exact go
    · have pr' : t.probe (fun i => (es[i]?.map (·.1)).getD 0) hv (st.getD (t.probeStart hv)) = some (.empty (way t.mask hv N) none) := by
        rw [est, show way t.mask hv N = (nth t.mask (nth t.mask r0 c) (N - c)).j by rw [hj, show c + (N - c) = N by omega]]
        exact pr
      rw [pr']
      dsimp only
      refine wpAny_pure (no fun hin => ?_)
      obtain ⟨p0, h0, hk0⟩ := List.mem_map.mp hin
      obtain ⟨i0, hi0, e0⟩ := List.getElem_of_mem h0
      have h00 : L[i0]? = some p0 := by rw [List.getElem?_eq_getElem hi0, e0]
      obtain ⟨c', b1, b2, b3⟩ := ahead i0 p0 h00 hk0
      exact absurd ((ha i0 p0 h00).trans (by rw [hk0, ehv])) (none' (c' - c) i0 (by omega) (by rw [hj, show c + (c' - c) = c' by omega]; exact b3))
theorem seek0 (R : Hs knd s.heap a L es ep t) {x : Addr} {k : List κ} (hx : IsTupleKey knd s.heap k x) (hu : A.units < cLine) {Q : SetFound → Shared → Prop} (yes : k ∈ L.map (·.2) → Q (.there none) s)
    (no : ∀ N, k ∉ L.map (·.2) → way t.mask (tupleKeyHash knd k) N ∉ t.place.toList → (∀ c, c < N → way t.mask (tupleKeyHash knd k) c ∈ t.place.toList) → Q (.free (way t.mask (tupleKeyHash knd k) N) false) s) :
    wpAny (model P w) A (setSearch a (.ref x) (tupleKeyHash knd k) true) Q E s := by
  have hroom := R.room
  obtain ⟨N, hN, free, busy⟩ := R.tab.first (by rw [hashes_len]; omega) (tupleKeyHash knd k)
  have big : 10 * SetTable.turns t.mask ≤ 1420 := by
    unfold SetTable.turns
    rcases R.tab.mok with e | e | e <;> omega
  unfold setSearch
  refine seek R hx hu hN _ rfl free busy yes (fun hn => no N hn free busy) 100000 0 none rfl (Nat.zero_le _) (by omega) fun i p hp hk => ?_
  have hsz := R.tab.sz
  rw [hashes_len] at hsz
  have hil : i < t.place.toList.length := by
    have := (List.getElem?_eq_some_iff.mp hp).1
    rw [Array.length_toList]
    omega
  obtain ⟨c, hc, e⟩ := R.tab.before free (i := i) (by unfold hashes; rw [List.getElem?_map, hp, ← hk]; rfl) (List.getElem?_eq_getElem hil)
  exact ⟨c, Nat.zero_le _, hc, by rw [List.getElem?_eq_getElem hil, e]⟩
end
end Sg
namespace Sg
open PySem PySem.Spec PyProof.Rows L2
section
variable {P : Program} {w : World} {κ : Type} [DecidableEq κ] {knd : KeyKind P w κ} {A : Around} {E : Value → Shared → Prop} {s : Shared} {a : Addr} {L : List (Addr × List κ)} {es : Array (Int × Value)} {ep : Nat} {t : SetTable}
/-- a tuple stays, where the set at a is written -/
theorem tup_but {h h' : Heap} {k : List κ} {b : Addr} {o : Obj} (hb : IsTupleKey knd h k b) (ho : h.get? a = some o) (hd : o.data = .set es ep t) (hs : Heap.SameBut a h h') : IsTupleKey knd h' k b := by
  obtain ⟨u, its, n, hu, hc, hdu, hi⟩ := hb
  refine ⟨u, its, n, (hs.2 b fun z => ?_).trans hu, hc, hdu, hi⟩
  subst z
  cases Option.some.inj (hu.symm.trans ho)
  rw [hd] at hdu
  cases hdu
theorem tup_stay {h h' : Heap} {k : List κ} {b : Addr} (x : IsTupleKey knd h k b) (hk : ∀ c o, h.get? c = some o → h'.get? c = some o) : IsTupleKey knd h' k b := by
  obtain ⟨o, its, n, ho, r⟩ := x
  exact ⟨o, its, n, hk b o ho, r⟩
theorem tab_plain {hs : List Int} {b : Bool} (T : TabOk t hs) : TabOk { t with plain := b } hs := ⟨T.ris, T.dm, T.sz, T.mok, T.bd, T.reach⟩
theorem put_in {α : Type} (l : List α) (p : Nat) (x : α) : (l.take p ++ x :: l.drop p).Perm (x :: l) := by
  have z : (l.take p ++ x :: l.drop p).Perm (x :: (l.take p ++ l.drop p)) := List.perm_middle
  rwa [List.take_append_drop] at z
/-- rows picked by a rearrangement of their numbers are a rearrangement -/
theorem picked {α : Type} (l : List α) : ∀ ord : List Nat, ord.Perm (List.range l.length) → (ord.filterMap fun i => l[i]?).Perm l := by
  intro ord hp
  refine (hp.filterMap fun i => l[i]?).trans ?_
  have all : ∀ n, n ≤ l.length → (List.range n).filterMap (fun i => l[i]?) = l.take n := by
    intro n
    induction n with
    | zero => exact fun _ => rfl
    | succ n ih =>
      intro hn
      rw [List.range_succ, List.filterMap_append, ih (Nat.le_of_succ_le hn), List.take_add_one]
      simp [List.getElem?_eq_getElem hn]
  rw [all _ (Nat.le_refl _), List.take_length]
/-- the entries in another order are those of the rows in that order -/
theorem ents_pick (h : es.toList = ents knd L) (ord : Array Nat) (hp : ord.toList.Perm (List.range L.length)) :
    (ord.filterMap (es[·]?)).toList = ents knd (ord.toList.filterMap fun i => L[i]?) ∧ hashes knd (ord.toList.filterMap fun i => L[i]?) = ord.toList.map fun i => (es.map (·.1)).getD i 0 := by
  have key : ∀ l : List Nat, (∀ i ∈ l, i < L.length) → l.filterMap (fun i => es[i]?) = ents knd (l.filterMap fun i => L[i]?) ∧ hashes knd (l.filterMap fun i => L[i]?) = l.map fun i => (es.map (·.1)).getD i 0 := by
    intro l
    induction l with
    | nil => exact fun _ => ⟨rfl, rfl⟩
    | cons i l ih =>
      intro hl
      have hi := hl i List.mem_cons_self
      obtain ⟨e1, e2⟩ := ih fun j hj => hl j (List.mem_cons_of_mem _ hj)
      have ee : es[i]? = some (tupleKeyHash knd (L[i]).2, Value.ref (L[i]).1) := by
        rw [← Array.getElem?_toList, h]
        unfold ents
        rw [List.getElem?_map, List.getElem?_eq_getElem hi]
        rfl
      have eL : L[i]? = some L[i] := List.getElem?_eq_getElem hi
      rw [List.filterMap_cons_some ee, List.filterMap_cons_some eL]
      refine ⟨?_, ?_⟩
      · rw [e1]
        rfl
      · show tupleKeyHash knd (L[i]).2 :: hashes knd _ = _ :: _
        rw [e2]
        congr 1
        have e5 : (es.map (·.1))[i]? = some (tupleKeyHash knd (L[i]).2) := by
          rw [Array.getElem?_map, ee]
          rfl
        simp [Array.getD_eq_getD_getElem?, e5]
  obtain ⟨e1, e2⟩ := key ord.toList fun i hi => List.mem_range.mp (hp.mem_iff.mp hi)
  exact ⟨by first | (rw [Array.toList_filterMap]; exact e1) | simpa using e1, e2⟩
/-- the table laid anew, greater -/
theorem relay {o : Obj} (ho : s.heap.get? a = some o) (hex : o.ExactSet) (hd : o.data = .set es ep t) (en : es.toList = ents knd L) (T0 : TabOk t (hashes knd L)) (hr : L.length ≤ t.mask) (nd : (L.map (·.2)).Nodup) (tup : ∀ p ∈ L, IsTupleKey knd s.heap p.2 p.1)
    (ld : w.params.followText "set-order" = true ∨ t.led = true) (few : L.length < 64) {wanted M : Nat} (hw : SetTable.sizeAbove wanted - 1 = M) (hM : MaskOk M) (hw2 : SetTable.sizeAbove wanted ≤ 128) (hn : L.length * 5 < M * 3) {Q : Unit → Shared → Prop}
    (hQ : ∀ h' L' es' ep' t', Heap.SameBut a s.heap h' → Hs knd h' a L' es' ep' t' → L'.Perm L → Q () { s with heap := h' }) : wpAny (model P w) A (setRelay a wanted) Q E s := by
  have hsl := size_of en
  obtain ⟨t', ord, e, hp, T, em, el, _, ed⟩ := relaid_ok t (hs := es.map (·.1)) (wanted := wanted) hw hM (by rw [Array.size_map, hsl]; omega)
  rw [Array.size_map, hsl] at hp
  obtain ⟨r1, r2⟩ := ents_pick en ord hp
  have pm := picked L ord.toList hp
  rw [← r2] at T
  have hs2 : (ord.filterMap (es[·]?)).size = es.size := by
    rw [size_of r1, pm.length_eq, hsl]
  rw [setRelay_eq]
  refine wpAny_bind (wpAny_setState_of ho hd (fits_of T0 en hr) ?_)
  dsimp only
  refine wp_if_neg (by rw [sizeLine_eq]; omega) ?_
  try refine wpAny_bind (wpAny_pure ?_)
  rw [e]
  dsimp only
  refine wpAny_bind (wp_if_neg (by rw [hs2]; simp) ?_)
  try refine wpAny_bind (wpAny_pure ?_)
  refine wpAny_pure ?_
  dsimp only
  refine wpAny_storeSet_of ho hd ?_ (by rw [hs2, hsl, sizeLine_eq]; omega)
  have sb : Heap.SameBut a s.heap (s.heap.update a (Obj.putSet (ord.filterMap (es[·]?)) t')) := Heap.SameBut.update ..
  exact hQ _ _ _ (ep + 1) t' sb ⟨⟨_, store_at ho hd, ⟨hex.1, hex.2.1, hex.2.2⟩, rfl⟩, r1, T, (pm.map (·.2)).nodup_iff.mpr nd, fun p hpm => tup_but (tup p (pm.mem_iff.mp hpm)) ho hd sb, by rw [el]; exact ld, by rw [pm.length_eq, em]; exact hn, by rw [pm.length_eq]; exact few⟩ pm
/-- a key added -/
theorem put (R : Hs knd s.heap a L es ep t) {x : Addr} {k : List κ} (hx : IsTupleKey knd s.heap k x) (hu : A.units < cLine) (hfew : L.length + 1 < 64) {Q : Bool → Shared → Prop}
    (hQ : ∀ b h' L' es' ep' t', Heap.SameBut a s.heap h' → Hs knd h' a L' es' ep' t' → (k ∈ L.map (·.2) → L' = L) → (k ∉ L.map (·.2) → L'.Perm ((x, k) :: L)) → Q b { s with heap := h' }) : wpAny (model P w) A (setAddHashed a (.ref x) (tupleKeyHash knd k)) Q E s := by
  obtain ⟨o, ho, hex, hd⟩ := R.ob
  have hsl := size_of R.en
  have hroom := R.room
  unfold setAddHashed
  refine wpAny_holding ?_
  rw [show (100000 : Nat) = 99999 + 1 from rfl, setAddHashedIn_succ]
  refine wpAny_bind (wpAny_setState_of ho hd R.fits ?_)
  dsimp only
  refine wp_if_neg (by simp [byScan, Value.scannable]) ?_
  try refine wpAny_bind (wpAny_pure ?_)
  refine wpAny_bind (seek0 R hx hu (fun hm => ?_) fun N hm free busy => ?_)
  · exact wpAny_pure (hQ false s.heap L es ep t (Heap.SameBut.refl a s.heap) R (fun _ => rfl) fun z => absurd hm z)
  · dsimp only
    refine wpAny_bind (wpAny_setState_of ho hd R.fits ?_)
    dsimp only
    obtain ⟨q1, q2, q3, q4, q5, q6, q7, q8, q9⟩ := R.tab.put free busy
    generalize hpt : t.put (way t.mask (tupleKeyHash knd k) N) = pt at q1 q3 q4 q5 q6 q7 q8 q9 ⊢
    obtain ⟨t1, p⟩ := pt
    dsimp only at q1 q3 q4 q5 q6 q7 q8 q9 ⊢
    subst q1
    have hin : (SetTable.insertAt es (SetTable.below t.place (way t.mask (tupleKeyHash knd k) N)) (tupleKeyHash knd k, Value.ref x)).toList = ents knd (L.take (SetTable.below t.place (way t.mask (tupleKeyHash knd k) N)) ++ (x, k) :: L.drop (SetTable.below t.place (way t.mask (tupleKeyHash knd k) N))) := by
      rw [SetTable.toList_insertAt, R.en]
      unfold ents
      rw [List.map_append, List.map_cons, List.map_take, List.map_drop]
    generalize hpp : SetTable.below t.place (way t.mask (tupleKeyHash knd k) N) = p at q2 q3 hin ⊢
    have pm := put_in L p (x, k)
    have hh : (hashes knd L).take p ++ tupleKeyHash knd k :: (hashes knd L).drop p = hashes knd (L.take p ++ (x, k) :: L.drop p) := by
      unfold hashes
      rw [List.map_append, List.map_cons, List.map_take, List.map_drop]
    rw [hh] at q3
    have nd1 : ((L.take p ++ (x, k) :: L.drop p).map (·.2)).Nodup := by
      refine (pm.map (·.2)).nodup_iff.mpr ?_
      rw [List.map_cons]
      exact List.nodup_cons.mpr ⟨hm, R.nd⟩
    have hlen : (L.take p ++ (x, k) :: L.drop p).length = L.length + 1 := pm.length_eq
    generalize L.take p ++ (x, k) :: L.drop p = L1 at pm hlen q3 nd1 hin
    generalize SetTable.insertAt es p (tupleKeyHash knd k, Value.ref x) = es1 at hin ⊢
    have hes := size_of hin
    -- behind the look at its hash: the table is t1, but for its mark
    have tail : ∀ t2 : SetTable, TabOk t2 (hashes knd L1) → t2.mask = t.mask → t2.led = t.led → t2.fill = (hashes knd L).length + 1 →
        wpAny (model P w) A (do
          storeSet a es1 t2
          if !false && t2.tooFull then setRelay a (SetTable.grown (es.size + 1))
          return true) Q E s := fun t2 T2 m2 l2 f2 => by
      refine wpAny_bind (wpAny_storeSet_of ho hd ?_ (by rw [hes, hlen, sizeLine_eq]; omega))
      have sb : Heap.SameBut a s.heap (s.heap.update a (Obj.putSet es1 t2)) := Heap.SameBut.update ..
      have ho1 := store_at (es' := es1) (t' := t2) ho hd
      generalize s.heap.update a (Obj.putSet es1 t2) = h1 at sb ho1 ⊢
      have tup1 : ∀ p ∈ L1, IsTupleKey knd h1 p.2 p.1 := fun p hp => by
        rcases List.mem_cons.mp (pm.mem_iff.mp hp) with e | hp
        · rw [e]
          exact tup_but hx ho hd sb
        · exact tup_but (R.tup p hp) ho hd sb
      have ld1 : w.params.followText "set-order" = true ∨ t2.led = true := by
        rw [l2]
        exact R.led
      by_cases hf : t2.tooFull = true
      · first
          | (refine wpAny_bind ?_; refine wp_if_pos (by simp [hf]) ?_)
          | (refine wp_if_pos (by simp [hf]) ?_; refine wpAny_bind ?_)
        have full : (L.length + 1) * 5 ≥ t2.mask * 3 := by
          have z := hf
          unfold SetTable.tooFull at z
          rw [decide_eq_true_eq, f2, hashes_len] at z
          exact z
        rw [hsl]
        have two : (t.mask = 7 ∧ L.length = 4) ∨ (t.mask = 31 ∧ L.length = 18) := by
          rw [m2] at full
          rcases R.tab.mok with e | e | e
          · exact .inl ⟨e, by rw [e] at full hroom; omega⟩
          · exact .inr ⟨e, by rw [e] at full hroom; omega⟩
          · rw [e] at full
            omega
        have go : ∀ M, SetTable.sizeAbove (SetTable.grown (L.length + 1)) - 1 = M → MaskOk M → SetTable.sizeAbove (SetTable.grown (L.length + 1)) ≤ 128 → (L.length + 1) * 5 < M * 3 →
            wpAny (model P w) A (setRelay a (SetTable.grown (L.length + 1))) (fun _ s' => wpAny (model P w) A (pure true) Q E s') E { s with heap := h1 } := fun M g1 g2 g3 g4 =>
          relay (s := { s with heap := h1 }) ho1 ⟨hex.1, hex.2.1, hex.2.2⟩ rfl hin T2 (by rw [hlen, m2]; rcases two with ⟨e, e2⟩ | ⟨e, e2⟩ <;> omega) nd1 tup1 ld1 (by rw [hlen]; exact hfew) g1 g2 g3 (by rw [hlen]; exact g4)
            fun h2 L2 es2 ep2 t2 sb2 R2 pm2 => wpAny_pure (hQ true h2 L2 es2 ep2 t2 (sb.trans sb2) R2 (fun z => absurd z hm) fun _ => pm2.trans pm)
        rcases two with ⟨_, e2⟩ | ⟨_, e2⟩
        · exact go 31 (by rw [e2, size_20]) (.inr (.inl rfl)) (by rw [e2, size_20]; decide) (by omega)
        · exact go 127 (by rw [e2, size_76]) (.inr (.inr rfl)) (by rw [e2, size_76]; decide) (by omega)
      · first
          | refine wp_if_neg (by simp [hf]) ?_
          | (refine wpAny_bind ?_; refine wp_if_neg (by simp [hf]) ?_; refine wpAny_pure ?_)
        refine wpAny_pure (hQ true h1 L1 es1 (ep + 1) t2 sb ⟨⟨_, ho1, ⟨hex.1, hex.2.1, hex.2.2⟩, rfl⟩, hin, T2, nd1, tup1, ld1, ?_, by rw [hlen]; exact hfew⟩ (fun z => absurd z hm) fun _ => pm)
        have z := hf
        unfold SetTable.tooFull at z
        rw [decide_eq_true_eq, f2, hashes_len] at z
        rw [hlen]
        omega
    have both : ∀ y : Bool, wpAny (model P w) A (do
        storeSet a es1 (if y = true then t1 else { t1 with plain := false })
        if !false && (if y = true then t1 else { t1 with plain := false }).tooFull then setRelay a (SetTable.grown (es.size + 1))
        return true) Q E s := fun y => by
      cases y with
      | true => exact tail t1 q3 q4 q5 q9
      | false => exact tail { t1 with plain := false } (tab_plain q3) q4 q5 q9
    by_cases hp1 : t1.plain = true
    · first
        | (refine wpAny_bind ?_; refine wp_if_pos hp1 ?_; refine hash_tup hx ?_)
        | refine wp_if_pos hp1 (wpAny_bind (hash_tup hx ?_))
      exact fun y => both y
    · first
        | (refine wpAny_bind ?_; refine wp_if_neg hp1 ?_; refine wpAny_pure ?_)
        | refine wp_if_neg hp1 (wpAny_bind (wpAny_pure ?_))
      exact both true
end
end Sg
namespace Sg
open PySem PySem.Spec PyProof.Rows L2
/-- what the first i of ks have brought -/
structure Brought {κ : Type} (ks : List (Addr × List κ)) (i : Nat) (L : List (Addr × List κ)) : Prop where
  of : ∀ p ∈ L, p ∈ ks.take i
  all : ∀ p ∈ ks.take i, p.2 ∈ L.map (·.2)
  len : L.length ≤ i
theorem Brought.again {κ : Type} {ks L : List (Addr × List κ)} {i : Nat} {x : Addr × List κ} (g : Brought ks i L) (e : ks[i]? = some x) (hm : x.2 ∈ L.map (·.2)) : Brought ks (i + 1) L := by
  have ht : ks.take (i + 1) = ks.take i ++ [x] := by
    rw [List.take_add_one, e]
    rfl
  refine ⟨fun p hp => by rw [ht]; exact List.mem_append_left _ (g.of p hp), fun p hp => ?_, Nat.le_succ_of_le g.len⟩
  rw [ht] at hp
  rcases List.mem_append.mp hp with z | z
  · exact g.all p z
  · rw [List.mem_singleton.mp z]
    exact hm
theorem Brought.more {κ : Type} {ks L L' : List (Addr × List κ)} {i : Nat} {x : Addr × List κ} (g : Brought ks i L) (e : ks[i]? = some x) (pm : L'.Perm (x :: L)) : Brought ks (i + 1) L' := by
  have ht : ks.take (i + 1) = ks.take i ++ [x] := by
    rw [List.take_add_one, e]
    rfl
  refine ⟨fun p hp => ?_, fun p hp => ?_, by rw [pm.length_eq, List.length_cons]; exact Nat.succ_le_succ g.len⟩
  · rw [ht]
    rcases List.mem_cons.mp (pm.mem_iff.mp hp) with z | z
    · rw [z]
      exact List.mem_append_right _ (List.mem_singleton.mpr rfl)
    · exact List.mem_append_left _ (g.of p z)
  · rw [(pm.map (·.2)).mem_iff, List.map_cons]
    rw [ht] at hp
    rcases List.mem_append.mp hp with z | z
    · exact List.mem_cons_of_mem _ (g.all p z)
    · rw [List.mem_singleton.mp z]
      exact List.mem_cons_self
section
variable {P : Program} {w : World} {κ : Type} [DecidableEq κ] {knd : KeyKind P w κ} {A : Around} {E : Value → Shared → Prop} {s : Shared}
abbrev nset (w : World) : Obj := { cls := .type "set", dict := none, data := .set #[] 0 (.fresh 0 0 (!w.params.followText "set-order")) }
theorem hs_new {h : Heap} {a : Addr} (ho : h.get? a = some (nset w)) : Hs knd h a [] #[] 0 (.fresh 0 0 (!w.params.followText "set-order")) where
  ob := ⟨_, ho, ⟨rfl, rfl, rfl⟩, rfl⟩
  en := rfl
  tab := ⟨List.Pairwise.nil, rfl, rfl, .inl rfl, fun x hx => (by cases hx), fun i h j hi => (by simp [hashes] at hi)⟩
  nd := List.nodup_nil
  tup := fun p hp => (by cases hp)
  led := by
    show _ ∨ (!w.params.followText "set-order") = true
    cases w.params.followText "set-order"
    · exact .inr rfl
    · exact .inl rfl
  room := show 0 * 5 < 7 * 3 by decide
  few := show 0 < 64 by decide
theorem Hs.stay {h h' : Heap} {a : Addr} {L : List (Addr × List κ)} {es : Array (Int × Value)} {ep : Nat} {t : SetTable} (R : Hs knd h a L es ep t) (ha : ∀ o, h.get? a = some o → h'.get? a = some o) (ht : ∀ p ∈ L, IsTupleKey knd h' p.2 p.1) : Hs knd h' a L es ep t := by
  obtain ⟨o, ho, r⟩ := R.ob
  exact ⟨⟨o, ha o ho, r⟩, R.en, R.tab, R.nd, ht, R.led, R.room, R.few⟩
/-- the loop that fills a set -/
theorem fill {I : Addr} {fp wr : List Addr} {G : Array GenState → Array GenState → Prop} {n : Nat} {Pv : Nat → Value → Prop} {St : Nat → Shared → Prop} {R : Result → Shared → Prop} (W : WalksS P w A.in1 I fp wr G n Pv St) (S : Addr) (hSf : S ∉ fp) (ks : List (Addr × List κ))
    (hn : n = ks.length) (hfew : ks.length < 64) (hval : ∀ i v, Pv i v → ∃ p, ks[i]? = some p ∧ v = .ref p.1) (h0 : Heap) (hk : ∀ p ∈ ks, IsTupleKey knd h0 p.2 p.1) (hS0 : h0.get? S = none) (hw0 : ∀ b ∈ wr, h0.get? b = none) (hu : A.in1.units < cLine) :
    ∀ (left i : Nat) (s : Shared), n - i = left → i ≤ n → St i s → (∀ b o, h0.get? b = some o → s.heap.get? b = some o) → (∃ L es ep t, Hs knd s.heap S L es ep t ∧ Brought ks i L) →
      (∀ s' L es ep t, Moved (S :: wr) G s s' → Hs knd s'.heap S L es ep t → Brought ks n L → (∀ b o, h0.get? b = some o → s'.heap.get? b = some o) → R (.ok (.ret .none)) s') → codeAny (model P w) A (.builtin "set.update.loop" ⟨[.ref S, .ref I], []⟩) R s := by
  have hSw : S ∉ wr := fun z => hSf (W.sub _ z)
  have wide : ∀ b ∈ wr, b ∈ S :: wr := fun b hb => List.mem_cons_of_mem _ hb
  have kept : ∀ {s s' : Shared}, Moved wr G s s' → (∀ b o, h0.get? b = some o → s.heap.get? b = some o) → ∀ b o, h0.get? b = some o → s'.heap.get? b = some o := fun hm kp b o e => hm.heap b o (fun hb => by rw [hw0 b hb] at e; cases e) (kp b o e)
  intro left
  induction left with
  | zero =>
    intro i s hl hi hst kp ⟨L, es, ep, t, hS, g⟩ hR
    obtain rfl : i = n := by omega
    refine codeAny_builtin F.entry_set_update_loop ?_
    rw [Around.under_plainId F.plain_set_update_loop _]
    show wpAny _ A.in1 (pyNext (.ref I) >>= _) _ _ s
    refine wpAny_bind (W.done s _ _ hst fun s' hm => ?_)
    show wpAny _ A.in1 (ret Value.none) _ _ s'
    have kp' := kept hm kp
    exact wpAny_pure (hR s' L es ep t (hm.mono wide) (hS.stay (fun o e => hm.heap S o hSw e) fun p hp => tup_stay (hk p (List.mem_of_mem_take (g.of p hp))) kp') g kp')
  | succ left ih =>
    intro i s hl hi hst kp ⟨L, es, ep, t, hS, g⟩ hR
    have lt : i < n := by omega
    refine codeAny_builtin F.entry_set_update_loop ?_
    rw [Around.under_plainId F.plain_set_update_loop _]
    show wpAny _ A.in1 (pyNext (.ref I) >>= _) _ _ s
    refine wpAny_bind (W.item i s _ _ lt hst fun v s' hP hst' hm => ?_)
    obtain ⟨p, hp, rfl⟩ := hval i v hP
    have kp' := kept hm kp
    have hS' : Hs knd s'.heap S L es ep t := hS.stay (fun o e => hm.heap S o hSw e) fun q hq => tup_stay (hk q (List.mem_of_mem_take (g.of q hq))) kp'
    have hx := tup_stay (hk p (List.mem_of_getElem? hp)) kp'
    show wpAny _ A.in1 (holding [Value.ref p.1] (setAdd S (.ref p.1)) >>= _) _ _ s'
    refine wpAny_bind (wpAny_holding ?_)
    unfold setAdd
    refine wpAny_holding (wpAny_bind (wpAny_pyHash_tuple hu hx ?_))
    refine put (s := { s' with toks := s'.toks + (p.2.length + 1) }) hS' hx hu (by have := g.len; omega) fun b h' L' es' ep' t' hsb hS2 c1 c2 => ?_
    have g' : Brought ks (i + 1) L' := by
      by_cases c : p.2 ∈ L.map (·.2)
      · rw [c1 c]
        exact g.again hp c
      · exact g.more hp (c2 c)
    have kp2 : ∀ b o, h0.get? b = some o → h'.get? b = some o := fun b o e => (hsb.2 b (fun z => by rw [z, hS0] at e; cases e)).trans (kp' b o e)
    refine wpAny_pure ⟨plainId_quiet F.plain_set_update_loop _, ih (i + 1) _ (by omega) lt (W.frame _ s' _ _ hst' (Nat.le_add_right _ _) fun b hb o e => ?_) kp2 ⟨L', es', ep', t', hS2, g'⟩ fun s2 L2 es2 ep2 t2 hm2 hS3 g3 kp3 => ?_⟩
    · rw [hsb.2 b (fun z : b = S => hSf (by rw [← z]; exact hb))]
      exact e
    · refine hR s2 L2 es2 ep2 t2 (Moved.trans W.gtrans ((hm.mono wide).then_heap (Nat.le_add_right _ _) fun b o hb e => ?_) hm2) hS3 g3 kp3
      rw [hsb.2 b (fun z : b = S => hb (by rw [z]; exact List.mem_cons_self))]
      exact e
set_option maxHeartbeats 3200000 in
/-- set(xs), xs a list of such tuples -/
theorem set_of_list {l : Addr} {items : Array Value} (ks : List (Addr × List κ)) {Q : Value → Shared → Prop} (hh : A.handled = none) (hl : s.heap.IsList l items) (hit : items.toList = ks.map fun p => Value.ref p.1) (hk : ∀ p ∈ ks, IsTupleKey knd s.heap p.2 p.1) (hfew : ks.length < 64) (hu : A.units + 3 < cLine)
    (h : ∀ (h' : Heap) (tk : Nat) L es ep t, Hs knd h' s.heap.objs.size L es ep t → Brought ks ks.length L → (∀ b o, s.heap.get? b = some o → h'.get? b = some o) → Q (.ref s.heap.objs.size) { s with heap := h', toks := tk }) : wpAny (model P w) A (call (.type "set") [.ref l]) Q E s := by
  have isz : items.size = ks.length := by
    have z := congrArg List.length hit
    rwa [Array.length_toList, List.length_map] at z
  obtain ⟨c, tl, hmro⟩ := F.called_set.mro
  have m1 := F.called_set.made
  have m2 := F.called_set.sub
  refine wpAny_call (codeAny_of_tree ?_)
  show wpAny _ _ (callAny (.type "set") _) _ _ _
  refine wpAny_pure ⟨Code.quiet_builtin _ (by decide +kernel), codeAny_builtin F.entry_type_call ?_⟩
  rw [Around.under_plain (weight_type_call_type "set" [.ref l] []) rfl]
  have m3 := F.called_set.notType
  have m4 := F.called_set.canCreate
  have m5 := F.typeCall_set_1 (.ref l)
  repeat (any_goals (first
    | assumption
    | wp_step))
  refine codeAny_mono (code_set_led1 (.ref l) (E := E) (Q₁ := fun ob s₁ => ob = .ref s.heap.objs.size ∧ s₁ = { s with heap := s.heap.push (nset w) }) ⟨rfl, rfl⟩) fun r s₁ hr => ?_
  cases r with
  | error e => exact hr
  | ok fl =>
    cases fl with
    | ret ob =>
      obtain ⟨rfl, rfl⟩ := hr
      have hS : (s.heap.push (nset w)).get? s.heap.objs.size = some (nset w) := Heap.get?_push_size _ rfl
      have hT : Shared.TypeIs { s with heap := s.heap.push (nset w) } (.ref s.heap.objs.size) "set" := ⟨_, hS, rfl⟩
      have i1 := F.called_set.init.lookup
      have i2 := F.called_set.init.bind (.ref s.heap.objs.size)
      repeat (any_goals (first
        | assumption
        | wp_step))
      refine codeAny_mono (codeAny_call_builtin (R := wants (fun r s₂ => r = .none ∧ ∃ h' tk L es ep t, s₂ = { s with heap := h', toks := tk } ∧ Hs knd h' s.heap.objs.size L es ep t ∧ Brought ks ks.length L ∧ ∀ b o, s.heap.get? b = some o → h'.get? b = some o) E) F.called_set.init.plain F.entry_set_init (check_set_init_1 hT ?_)) fun r₂ s₂ hr₂ => ?_
      · obtain ⟨⟨oc, od, oda, osl⟩, hol, hcl, nl, hdl⟩ := hl
        simp only at hcl hdl
        subst hcl hdl
        have hol1 := Heap.get?_push_of_some (nset w) hol
        have b1 := F.sub_list_set
        have b2 := F.sub_list_frozenset
        have b3 : (Value.type "list" == Value.type "dict") = false := by decide
        have hl1 : (s.heap.push (nset w)).IsList l items := ⟨_, hol1, rfl, nl, rfl⟩
        unfold Builtin.«set.__init__» noKeywords Builtin.Frozenset.updateFrom
        generalize hPI : pyIter = PI
        wp_walk
        subst hPI
        refine wpAny_pyIter_list hl1 (wpAny_bind (wpAny_runValue ?_))
        have ls : l < s.heap.objs.size := Heap.lt_size hol
        have h3 : A.in1.in1.in1.handled = none := by simp [hh]
        have sz : (s.heap.push (nset w)).objs.size = s.heap.objs.size + 1 := Heap.size_push ..
        have ne : l ≠ (s.heap.push (nset w)).objs.size := by
          rw [sz]
          exact Nat.ne_of_lt (Nat.lt_succ_of_lt ls)
        have out : ∀ b, s.heap.objs.size ≤ b → s.heap.get? b = none := fun b hb => by
          cases q : s.heap.get? b with
          | none => rfl
          | some o => exact absurd (Nat.lt_of_lt_of_le (Heap.lt_size q) hb) (Nat.lt_irrefl _)
        refine fill ((Walks.list h3 _ l ne items).toS) s.heap.objs.size ?_ ks isz hfew (fun i v hv => ?_) s.heap hk (out _ (Nat.le_refl _)) (fun b hb => out b (by rw [List.mem_singleton.mp hb, sz]; exact Nat.le_succ _)) hu (items.size - 0) 0 _ (by omega) (Nat.zero_le _)
          ⟨⟨_, Heap.get?_push_size _ rfl, rfl, rfl⟩, hl1.push _⟩ (fun b o e => Heap.get?_push_of_some _ (Heap.get?_push_of_some _ e)) ⟨[], #[], 0, _, hs_new (Heap.get?_push_of_some _ hS), ⟨(fun p z => nomatch z), (fun p z => (by simp at z)), Nat.le_refl _⟩⟩ ?_
        · rw [sz]
          simp only [List.mem_cons, List.not_mem_nil, or_false, not_or]
          exact ⟨Nat.ne_of_lt (Nat.lt_succ_self _), Nat.ne_of_gt ls⟩
        · have q : items.toList[i]? = some v := by
            rw [Array.getElem?_toList]
            exact hv
          rw [hit, List.getElem?_map] at q
          cases hq : ks[i]? with
          | none =>
            rw [hq] at q
            cases q
          | some p =>
            rw [hq] at q
            exact ⟨p, rfl, (Option.some.inj q).symm⟩
        · intro s' L es ep t hm hS' g' kp
          obtain ⟨h', g2, d', tk', os'⟩ := s'
          obtain rfl : g2 = s.gens := hm.gens
          obtain rfl : d' = s.drawn := hm.drawn
          obtain rfl : os' = s.os := hm.os
          show wpAny _ _ _ _ _ _
          refine wpAny_pure ?_
          show wpAny _ _ (ret Value.none) _ _ _
          rw [isz] at g'
          exact wpAny_pure ⟨rfl, h', tk', L, es, ep, t, rfl, hS', g', kp⟩
      · cases r₂ with
        | error e => exact hr₂
        | ok fl₂ =>
          cases fl₂ with
          | ret r =>
            obtain ⟨rfl, h', tk, L, es, ep, t, rfl, hS', g', kp⟩ := hr₂
            repeat (any_goals (first
              | assumption
              | wp_step))
            exact h _ _ _ _ _ _ hS' g' kp
          | _ => exact hr₂.elim
    | _ => exact hr.elim
set_option maxHeartbeats 3200000 in
/-- set(xs), xs a tuple of such tuples -/
theorem set_of_tuple {l : Addr} {items : Array Value} (ks : List (Addr × List κ)) {Q : Value → Shared → Prop} (hh : A.handled = none) (hl : s.heap.IsTuple l items) (hit : items.toList = ks.map fun p => Value.ref p.1) (hk : ∀ p ∈ ks, IsTupleKey knd s.heap p.2 p.1) (hfew : ks.length < 64) (hu : A.units + 3 < cLine)
    (h : ∀ (h' : Heap) (tk : Nat) L es ep t, Hs knd h' s.heap.objs.size L es ep t → Brought ks ks.length L → (∀ b o, s.heap.get? b = some o → h'.get? b = some o) → Q (.ref s.heap.objs.size) { s with heap := h', toks := tk }) : wpAny (model P w) A (call (.type "set") [.ref l]) Q E s := by
  have isz : items.size = ks.length := by
    have z := congrArg List.length hit
    rwa [Array.length_toList, List.length_map] at z
  obtain ⟨c, tl, hmro⟩ := F.called_set.mro
  have m1 := F.called_set.made
  have m2 := F.called_set.sub
  refine wpAny_call (codeAny_of_tree ?_)
  show wpAny _ _ (callAny (.type "set") _) _ _ _
  refine wpAny_pure ⟨Code.quiet_builtin _ (by decide +kernel), codeAny_builtin F.entry_type_call ?_⟩
  rw [Around.under_plain (weight_type_call_type "set" [.ref l] []) rfl]
  have m3 := F.called_set.notType
  have m4 := F.called_set.canCreate
  have m5 := F.typeCall_set_1 (.ref l)
  repeat (any_goals (first
    | assumption
    | wp_step))
  refine codeAny_mono (code_set_led1 (.ref l) (E := E) (Q₁ := fun ob s₁ => ob = .ref s.heap.objs.size ∧ s₁ = { s with heap := s.heap.push (nset w) }) ⟨rfl, rfl⟩) fun r s₁ hr => ?_
  cases r with
  | error e => exact hr
  | ok fl =>
    cases fl with
    | ret ob =>
      obtain ⟨rfl, rfl⟩ := hr
      have hS : (s.heap.push (nset w)).get? s.heap.objs.size = some (nset w) := Heap.get?_push_size _ rfl
      have hT : Shared.TypeIs { s with heap := s.heap.push (nset w) } (.ref s.heap.objs.size) "set" := ⟨_, hS, rfl⟩
      have i1 := F.called_set.init.lookup
      have i2 := F.called_set.init.bind (.ref s.heap.objs.size)
      repeat (any_goals (first
        | assumption
        | wp_step))
      refine codeAny_mono (codeAny_call_builtin (R := wants (fun r s₂ => r = .none ∧ ∃ h' tk L es ep t, s₂ = { s with heap := h', toks := tk } ∧ Hs knd h' s.heap.objs.size L es ep t ∧ Brought ks ks.length L ∧ ∀ b o, s.heap.get? b = some o → h'.get? b = some o) E) F.called_set.init.plain F.entry_set_init (check_set_init_1 hT ?_)) fun r₂ s₂ hr₂ => ?_
      · obtain ⟨⟨oc, od, oda, osl⟩, hol, hcl, nl, hdl⟩ := hl
        simp only at hcl hdl
        subst hcl hdl
        have hol1 := Heap.get?_push_of_some (nset w) hol
        have b1 := F.sub_tuple_set
        have b2 := F.sub_tuple_frozenset
        have b3 : (Value.type "tuple" == Value.type "dict") = false := by decide
        have hl1 : (s.heap.push (nset w)).IsTuple l items := ⟨_, hol1, rfl, nl, rfl⟩
        unfold Builtin.«set.__init__» noKeywords Builtin.Frozenset.updateFrom
        generalize hPI : pyIter = PI
        wp_walk
        subst hPI
        refine wpAny_pyIter_tuple hl1 (wpAny_bind (wpAny_runValue ?_))
        have ls : l < s.heap.objs.size := Heap.lt_size hol
        have h3 : A.in1.in1.in1.handled = none := by simp [hh]
        have sz : (s.heap.push (nset w)).objs.size = s.heap.objs.size + 1 := Heap.size_push ..
        have ne : l ≠ (s.heap.push (nset w)).objs.size := by
          rw [sz]
          exact Nat.ne_of_lt (Nat.lt_succ_of_lt ls)
        have out : ∀ b, s.heap.objs.size ≤ b → s.heap.get? b = none := fun b hb => by
          cases q : s.heap.get? b with
          | none => rfl
          | some o => exact absurd (Nat.lt_of_lt_of_le (Heap.lt_size q) hb) (Nat.lt_irrefl _)
        refine fill ((Walks.tuple h3 _ l ne items).toS) s.heap.objs.size ?_ ks isz hfew (fun i v hv => ?_) s.heap hk (out _ (Nat.le_refl _)) (fun b hb => out b (by rw [List.mem_singleton.mp hb, sz]; exact Nat.le_succ _)) hu (items.size - 0) 0 _ (by omega) (Nat.zero_le _)
          ⟨⟨_, Heap.get?_push_size _ rfl, rfl, rfl⟩, hl1.push _⟩ (fun b o e => Heap.get?_push_of_some _ (Heap.get?_push_of_some _ e)) ⟨[], #[], 0, _, hs_new (Heap.get?_push_of_some _ hS), ⟨(fun p z => nomatch z), (fun p z => (by simp at z)), Nat.le_refl _⟩⟩ ?_
        · rw [sz]
          simp only [List.mem_cons, List.not_mem_nil, or_false, not_or]
          exact ⟨Nat.ne_of_lt (Nat.lt_succ_self _), Nat.ne_of_gt ls⟩
        · have q : items.toList[i]? = some v := by
            rw [Array.getElem?_toList]
            exact hv
          rw [hit, List.getElem?_map] at q
          cases hq : ks[i]? with
          | none =>
            rw [hq] at q
            cases q
          | some p =>
            rw [hq] at q
            exact ⟨p, rfl, (Option.some.inj q).symm⟩
        · intro s' L es ep t hm hS' g' kp
          obtain ⟨h', g2, d', tk', os'⟩ := s'
          obtain rfl : g2 = s.gens := hm.gens
          obtain rfl : d' = s.drawn := hm.drawn
          obtain rfl : os' = s.os := hm.os
          show wpAny _ _ _ _ _ _
          refine wpAny_pure ?_
          show wpAny _ _ (ret Value.none) _ _ _
          rw [isz] at g'
          exact wpAny_pure ⟨rfl, h', tk', L, es, ep, t, rfl, hS', g', kp⟩
      · cases r₂ with
        | error e => exact hr₂
        | ok fl₂ =>
          cases fl₂ with
          | ret r =>
            obtain ⟨rfl, h', tk, L, es, ep, t, rfl, hS', g', kp⟩ := hr₂
            repeat (any_goals (first
              | assumption
              | wp_step))
            exact h _ _ _ _ _ _ hS' g' kp
          | _ => exact hr₂.elim
    | _ => exact hr.elim
end
end Sg
/-! Sorting ties: tuples of a sign and numbers. -/
namespace Sg
open PySem PySem.Spec PyProof.Rows L2
def numV : Value → Int
  | .int i _ => i
  | .str z _ => ((z.cps.toList.headD 0 : Nat) : Int)
  | _ => 0
def numK : Key → Int
  | .inl i => i
  | .inr z => ((z.cps.toList.headD 0 : Nat) : Int)
/-- the numbers by which a tuple is ordered, read off the heap -/
def numsOf (h : Heap) : Value → List Int
  | .ref a => match h.get? a with
    | some o => match o.data with
      | .seq xs _ => xs.toList.map numV
      | _ => []
    | none => []
  | _ => []
/-- a sign, then numbers; all below B -/
def TieK (B : Int) (d : Nat) (k : List Key) : Prop := ∃ (c : Nat) (ns : List Int), k = .inr ⟨#[c]⟩ :: ns.map Sum.inl ∧ ns.length + 1 = d ∧ TS.Bd B ((c : Int) :: ns)
theorem TieK.len {B : Int} {d : Nat} {k : List Key} (t : TieK B d k) : k.length = d := by
  obtain ⟨c, ns, rfl, l, _⟩ := t
  rw [List.length_cons, List.length_map, l]
section
variable {P : Program} {w : World} {A : Around} {E : Value → Shared → Prop} {s : Shared}
theorem is_shape {k : Key} {v : Value} (h : (mixKind P w).is k v = true) : (∃ i t, k = Sum.inl i ∧ v = Value.int i t) ∨ (∃ x t, k = Sum.inr x ∧ v = Value.str x t) := keyIs_shape (k := k) (v := v) h
theorem nums_items {k : List Key} {vs : List Value} (h : ItemsAre (mixKind P w) k vs) : vs.map numV = k.map numK := by
  induction h with
  | nil => rfl
  | @cons k0 v ks vs h1 _ ih =>
    rw [List.map_cons, List.map_cons, ih]
    rcases is_shape h1 with ⟨i, t, rfl, rfl⟩ | ⟨x, t, rfl, rfl⟩ <;> rfl
theorem nums_at {h : Heap} {k : List Key} {a : Addr} (x : IsTupleKey (mixKind P w) h k a) : numsOf h (.ref a) = k.map numK := by
  obtain ⟨o, its, n, ho, hc, hd, hi⟩ := x
  simp only [numsOf, ho, hd]
  exact nums_items hi
theorem ints_items : ∀ {ns : List Int} {vs : List Value}, ItemsAre (mixKind P w) (ns.map Sum.inl) vs → IntsAre vs ns
  | [], _, .nil => .nil
  | n :: ns, _, .cons h1 t => by
    rcases is_shape h1 with ⟨i, tk, e, rfl⟩ | ⟨x, tk, e, rfl⟩
    · cases e
      exact .cons n tk (ints_items t)
    · cases e
theorem nums_inl (ns : List Int) : (ns.map (Sum.inl : Int → Key)).map numK = ns := by
  rw [List.map_map]
  exact List.map_id' ns
theorem lt_one (c e : Nat) : decide (([c] : List Nat) < [e]) = decide ((c : Int) < (e : Int)) := by
  refine decide_eq_decide.mpr ⟨fun h => ?_, fun h => ?_⟩
  · cases h with
    | rel h => exact Int.ofNat_lt.mpr h
    | cons h => cases h
  · exact List.Lex.rel (Int.ofNat_lt.mp h)
/-- two ties: the sign first, then the numbers -/
theorem lex_tie {B : Int} {d : Nat} {k k' : List Key} {xs ys : List Value} {Q : Bool → Shared → Prop} (hx : ItemsAre (mixKind P w) k xs) (hy : ItemsAre (mixKind P w) k' ys) (t1 : TieK B d k) (t2 : TieK B d k') (h : Q (decide (TS.code B (k.map numK) < TS.code B (k'.map numK))) s) :
    PySem.W.KatLex P w A true false Q (xs.zip ys) 0 s := by
  obtain ⟨c, ns, rfl, l1, b1⟩ := t1
  obtain ⟨e, ms, rfl, l2, b2⟩ := t2
  cases hx with
  | cons h1 hx =>
    cases hy with
    | cons h2 hy =>
      rcases is_shape h1 with ⟨i, tk, z, _⟩ | ⟨x, tk, z, rfl⟩
      · cases z
      · cases z
        rcases is_shape h2 with ⟨i, tk2, z, _⟩ | ⟨x, tk2, z, rfl⟩
        · cases z
        · cases z
          rw [List.map_cons, List.map_cons, nums_inl, nums_inl] at h
          have h' : Q (decide (TS.code B ((c : Int) :: ns) < TS.code B ((e : Int) :: ms))) s := h
          show PySem.W.KatLex P w A true false Q ((Value.str ⟨#[c]⟩ tk, Value.str ⟨#[e]⟩ tk2) :: _) 0 s
          refine PySem.W.kat_cons (wpAny_eqBool_str ?_)
          have hl : ns.length = ms.length := by omega
          by_cases q : c = e
          · subst q
            rw [decide_eq_true rfl]
            refine PySem.W.kat_yes (TS.lex_ints 1 (ints_items hx) (ints_items hy) hl b1.tail b2.tail ?_)
            rw [← decide_eq_decide.mpr (TS.code_same (B := B) (d := (c : Int)) hl)]
            exact h'
          · rw [decide_eq_false (show ¬ (⟨#[c]⟩ : Str) = ⟨#[e]⟩ from fun z => q (by injection z with z; injection z with z; injection z))]
            refine PySem.W.kat_no (oneLt_str ?_)
            have dd : decide (TS.code B ((c : Int) :: ns) < TS.code B ((e : Int) :: ms)) = decide ((c : Int) < (e : Int)) := by
              refine decide_eq_decide.mpr ⟨fun z => ?_, fun z => TS.code_lt hl b1.tail b2.tail z⟩
              rcases Int.lt_trichotomy (c : Int) (e : Int) with y | y | y
              · exact y
              · exact absurd (Int.ofNat.inj y) q
              · have := TS.code_lt hl.symm b2.tail b1.tail y
                omega
            rw [dd, ← lt_one] at h'
            exact h'
/-- the values at hand are ties -/
def Ties (P : Program) (w : World) (h : Heap) (B : Int) (d : Nat) (vs : List Value) : Prop := ∀ v ∈ vs, ∃ a k, v = Value.ref a ∧ IsTupleKey (mixKind P w) h k a ∧ TieK B d k
theorem ties_firsts {h : Heap} {B : Int} {d : Nat} : ∀ vs : List Value, Ties P w h B d vs → ∃ fs, PySem.W.KatTups h vs fs ∧ fs.length = vs.length ∧ ∀ f, f ∈ fs → ∃ z t, f = Value.str z t
  | [], _ => ⟨[], PySem.W.KatTups.nil, rfl, fun f hf => by simp at hf⟩
  | v :: vs, x => by
    obtain ⟨fs, k1, l1, i1⟩ := ties_firsts vs fun u hu => x u (List.mem_cons_of_mem _ hu)
    obtain ⟨a, k, rfl, ⟨o, its, n, ho, hc, hd, hi⟩, c, ns, rfl, _⟩ := x v List.mem_cons_self
    cases q : its.toList with
    | nil =>
      rw [q] at hi
      cases hi
    | cons y ys =>
      rw [q] at hi
      cases hi with
      | cons h1 _ =>
        rcases is_shape h1 with ⟨i, tk, z, _⟩ | ⟨z, tk, _, rfl⟩
        · cases z
        · refine ⟨_ :: fs, PySem.W.KatTups.cons ho hc hd (f := .str z tk) (by rw [← Array.getElem?_toList, q]; rfl) k1, by rw [List.length_cons, List.length_cons, l1], fun f hf => ?_⟩
          rcases List.mem_cons.mp hf with e | hf
          · exact ⟨z, tk, e⟩
          · exact i1 f hf
theorem Ties.keep {h h' : Heap} {B : Int} {d : Nat} {vs : List Value} (x : Ties P w h B d vs) (k : ∀ b o, h.get? b = some o → o.cls = .type "tuple" → h'.get? b = some o) : Ties P w h' B d vs := fun v hv => by
  obtain ⟨a, q, e, ⟨o, its, n, ho, hc, r⟩, t⟩ := x v hv
  exact ⟨a, q, e, ⟨o, its, n, k _ _ ho hc, hc, r⟩, t⟩
theorem kind_ties {B : Int} {d : Nat} {vs : List Value} (h2 : 2 ≤ vs.length) (x : Ties P w s.heap B d vs) (r : Value → Int) (hr : ∀ v ∈ vs, r v = TS.code B (numsOf s.heap v)) (Q : SortKind → Shared → Prop) (h : ∀ κ, TS.Cmp P w A s κ (pairsOf vs) r → Q κ s) :
    wpAny (model P w) A (keyKind' vs.toArray) Q E s := by
  obtain ⟨fs, kt, hl, hi⟩ := ties_firsts vs x
  refine PySem.W.kat_kind (T := Value.type "str") kt (by omega) (fun f hf => ?_) rfl (h _ ?_)
  · obtain ⟨z, t, rfl⟩ := hi f hf
    exact PySem.W.Looks.of_pure rfl
  · intro p q hp hq Q' E' hQ
    rw [pairsOf_toList] at hp hq
    have m1 := (mem_zip_self hp).2
    have m2 := (mem_zip_self hq).2
    have e1 := hr _ m1
    have e2 := hr _ m2
    obtain ⟨a, k, ea, xa, ta⟩ := x _ m1
    obtain ⟨b, k', eb, xb, tb⟩ := x _ m2
    rw [ea, nums_at xa] at e1
    rw [eb, nums_at xb] at e2
    rw [ea, eb] at hQ ⊢
    rw [e1, e2] at hQ
    obtain ⟨o, its, n, ho, hc, hd, hia⟩ := xa
    obtain ⟨o', its', n', ho', hc', hd', hib⟩ := xb
    refine PySem.W.kat_lt ho hd ho' hd' ?_
    have sz : decide (its.size < its'.size) = false := by
      have l1 := hia.length
      have l2 := hib.length
      have z1 : its.toList.length = its.size := by simp
      have z2 : its'.toList.length = its'.size := by simp
      have q1 := ta.len
      have q2 := tb.len
      exact decide_eq_false (by omega)
    rw [sz]
    exact lex_tie hia hib ta tb hQ
/-- list.sort of ties -/
theorem sort_ties {a : Addr} {vs : List Value} {n d : Nat} {B : Int} {Q : PySem.Fin → Shared → Prop} (ho : s.heap.get? a = some (seqObj "list" vs.toArray n)) (h64 : vs.length < 64) (x : Ties P w s.heap B d vs) (r : Value → Int) (hr : ∀ v ∈ vs, r v = TS.code B (numsOf s.heap v))
    (h : ∀ out : Array Value, out.toList.Perm vs → out.toList.Pairwise (fun u v => r u ≤ r v) → Q (.done (.ret .none)) { s with heap := sortedHeap s.heap a vs out }) : wpAny (model P w) A (Builtin.«list.sort» ⟨[.ref a], []⟩) Q E s := by
  have keep : ∀ b o, s.heap.get? b = some o → o.cls = .type "tuple" → (TS.midHeap s.heap a vs).get? b = some o := fun b o e hc => by
    refine TS.midHeap_old (fun z => ?_) e
    subst z
    rw [ho] at e
    cases e
    have c' : Value.type "list" = Value.type "tuple" := hc
    injection c' with c'
    exact absurd c' (by decide)
  refine SK.plain_sort (r := r) ho h64 (fun h2 Q' hQ => ?_) fun ps out h1 h2 h3 => ?_
  · refine kind_ties (s := { s with heap := TS.midHeap s.heap a vs }) h2 (x.keep keep) r (fun v hv => ?_) Q' hQ
    obtain ⟨b, k, rfl, xb, _⟩ := x v hv
    rw [hr _ hv, nums_at xb]
    obtain ⟨o, its, m, hb, hc, hd, hi⟩ := xb
    rw [nums_at (P := P) (w := w) (k := k) ⟨o, its, m, keep _ _ hb hc, hc, hd, hi⟩]
  · obtain ⟨p, q⟩ := TS.out_rank h1 h2 h3
    exact h out p q
end
end Sg
namespace Sg
open PySem PySem.Spec PyProof.Rows L2
abbrev TK := Addr × List Key
abbrev ordOf (B : Int) (p : TK) : Int := TS.code B (p.2.map numK)
abbrev refs (ks : List TK) : List V := ks.map fun p => V.ref p.1
abbrev refsV (ks : List TK) : List Value := ks.map fun p => Value.ref p.1
section
variable {P : Program} {w : World} {A : Around} {E : Value → Shared → Prop} {s : Shared}
/-- values that are a rearrangement of references are the references of a rearrangement -/
theorem pick_perm : ∀ {vs : List Value} {ks : List TK}, vs.Perm (refsV ks) → ∃ ks' : List TK, vs = refsV ks' ∧ ks'.Perm ks := by
  intro vs ks h
  generalize e : refsV ks = us at h
  induction h generalizing ks with
  | nil =>
    cases ks with
    | nil => exact ⟨[], rfl, .nil⟩
    | cons _ _ => cases e
  | @cons x l1 l2 h ih =>
    cases ks with
    | nil => cases e
    | cons p r =>
      obtain ⟨e1, e2⟩ := List.cons.inj e
      obtain ⟨k', e3, pm⟩ := ih e2
      exact ⟨p :: k', by rw [e3, ← e1]; rfl, .cons p pm⟩
  | swap x y l =>
    cases ks with
    | nil => cases e
    | cons p r =>
      cases r with
      | nil => cases (List.cons.inj e).2
      | cons q r =>
        obtain ⟨e1, e2⟩ := List.cons.inj e
        obtain ⟨e3, e4⟩ := List.cons.inj e2
        exact ⟨q :: p :: r, by rw [← e1, ← e3, ← e4]; rfl, .swap p q r⟩
  | trans h1 h2 ih1 ih2 =>
    obtain ⟨k2, e2, p2⟩ := ih2 e
    obtain ⟨k1, e1, p1⟩ := ih1 e2.symm
    exact ⟨k1, e1, p1.trans p2⟩
theorem ties_of {h : Heap} {B : Int} {d : Nat} {ks : List TK} (hk : ∀ p ∈ ks, IsTupleKey (mixKind P w) h p.2 p.1) (ht : ∀ p ∈ ks, TieK B d p.2) : Ties P w h B d (refsV ks) := fun v hv => by
  obtain ⟨p, hp, rfl⟩ := List.mem_map.mp hv
  exact ⟨p.1, p.2, rfl, hk p hp, ht p hp⟩
/-- a list just laid, sorted -/
theorem sort_new {ks : List TK} {d : Nat} {B : Int} {a : Addr} {n : Nat} {Q : PySem.Fin → Shared → Prop} (ho : s.heap.get? a = some (seqObj "list" (refsV ks).toArray n)) (h64 : ks.length < 64) (hk : ∀ p ∈ ks, IsTupleKey (mixKind P w) s.heap p.2 p.1) (ht : ∀ p ∈ ks, TieK B d p.2)
    (h : ∀ (out : Array Value) (ks' : List TK), out.toList = refsV ks' → ks'.Perm ks → ks'.Pairwise (fun p q => ordOf B p ≤ ordOf B q) → Q (.done (.ret .none)) { s with heap := sortedHeap s.heap a (refsV ks) out }) :
    wpAny (model P w) A (Builtin.«list.sort» ⟨[.ref a], []⟩) Q E s := by
  refine sort_ties ho (by rw [List.length_map]; exact h64) (ties_of hk ht) (fun v => TS.code B (numsOf s.heap v)) (fun v _ => rfl) fun out pm pw => ?_
  obtain ⟨ks', e, pk⟩ := pick_perm pm
  refine h out ks' e pk ?_
  rw [e] at pw
  refine List.Pairwise.imp_of_mem (fun {p q} hp hq hle => ?_) (List.pairwise_map.mp pw)
  rw [nums_at (hk p (pk.mem_iff.mp hp)), nums_at (hk q (pk.mem_iff.mp hq))] at hle
  exact hle
/-- sorted(xs) of a list -/
theorem sorted_list {l : Addr} {ks : List TK} {d : Nat} {B : Int} {Q : Value → Shared → Prop} (hl : s.heap.IsList l (refsV ks).toArray) (h64 : ks.length < 64) (hk : ∀ p ∈ ks, IsTupleKey (mixKind P w) s.heap p.2 p.1) (ht : ∀ p ∈ ks, TieK B d p.2)
    (h : ∀ (h' : Heap) (p : Addr) (c : Nat) (out : Array Value) (ks' : List TK), (∀ b o, s.heap.get? b = some o → h'.get? b = some o) → s.heap.objs.size ≤ p → h'.get? p = some (seqObj "list" out c) → out.toList = refsV ks' → ks'.Perm ks → ks'.Pairwise (fun p q => ordOf B p ≤ ordOf B q) → Q (.ref p) { s with heap := h' }) :
    wpAny (model P w) A (call (.builtin "sorted") [.ref l]) Q E s := by
  have hz : (refsV ks).length < 64 := by
    rw [List.length_map]
    exact h64
  refine Calls.call_function_entry kind_sorted plain_sorted entry_sorted (args_sorted1 _) ?_
  unfold Builtin.«sorted»
  refine wpAny_bind (m := checkCount "sorted" 1 1 _) (wpAny_pure (wpAny_bind (collect_list hl ?_ (by rw [sizeLine_eq]; omega))))
  refine wpAny_bind (wpAny_newList ?_ (by rw [sizeLine_eq]; omega))
  have sz : ((s.heap.push (seqObj "list" #[] 0)).update s.heap.objs.size (Obj.mapSeq (· ++ (refsV ks).toArray))).objs.size = s.heap.objs.size + 1 := by
    rw [Heap.size_update, size_push']
  have k0 : ∀ b o, s.heap.get? b = some o → ((s.heap.push (seqObj "list" #[] 0)).update s.heap.objs.size (Obj.mapSeq (· ++ (refsV ks).toArray))).get? b = some o := fun b o e => by
    have lt := Heap.lt_size e
    rw [Heap.get?_update_ne _ _ _ _ (Nat.ne_of_lt lt)]
    exact Heap.get?_push_of_some _ e
  show wpAny _ _ _ _ _ { s with heap := ((s.heap.push (seqObj "list" #[] 0)).update s.heap.objs.size (Obj.mapSeq (· ++ (refsV ks).toArray))).push (seqObj "list" (refsV ks).toArray 0) }
  generalize (s.heap.push (seqObj "list" #[] 0)).update s.heap.objs.size (Obj.mapSeq (· ++ (refsV ks).toArray)) = h0 at sz k0 ⊢
  have hoL : (h0.push (seqObj "list" (refsV ks).toArray 0)).get? h0.objs.size = some (seqObj "list" (refsV ks).toArray 0) := Heap.get?_push_size _ rfl
  have k1 : ∀ b o, s.heap.get? b = some o → (h0.push (seqObj "list" (refsV ks).toArray 0)).get? b = some o := fun b o e => Heap.get?_push_of_some _ (k0 b o e)
  refine wpAny_bind (wpAny_holding (wpAny_call_entry slot_list_sort ⟨_, hoL, rfl⟩ entry_list_sort (sort_new (s := { s with heap := h0.push (seqObj "list" (refsV ks).toArray 0) }) hoL h64 (fun p hp => tup_stay (hk p hp) k1) ht fun out ks' eo pk pw => ⟨_, rfl, ?_⟩) (args_list_sort _)))
  obtain ⟨c, hc⟩ := sortedHeap_at (out := out) hoL
  refine wpAny_pure ⟨_, rfl, h _ h0.objs.size c out ks' (fun b o e => ?_) (by omega) hc eo pk pw⟩
  have lt : b < h0.objs.size := Heap.lt_size (k0 b o e)
  rw [sortedHeap_old (Nat.ne_of_lt lt) (by rw [size_push']; exact Nat.lt_succ_of_lt lt)]
  exact k1 b o e
/-- sorted(s) of a set of ties -/
theorem sorted_set {a : Addr} {L : List TK} {es : Array (Int × Value)} {ep : Nat} {t : SetTable} {Q : Value → Shared → Prop} (R : Hs (mixKind P w) s.heap a L es ep t) (hh : A.handled = none) {d : Nat} {B : Int} (ht : ∀ p ∈ L, TieK B d p.2)
    (h : ∀ (s' : Shared) (p : Addr) (c : Nat) (out : Array Value) (L' : List TK), (∀ b o, s.heap.get? b = some o → s'.heap.get? b = some o) → s'.gens = s.gens → s'.os = s.os → s.heap.objs.size ≤ p → s'.heap.get? p = some (seqObj "list" out c) → out.toList = refsV L' → L'.Perm L →
      L'.Pairwise (fun p q => ordOf B p ≤ ordOf B q) → Q (.ref p) s') : wpAny (model P w) A (call (.builtin "sorted") [.ref a]) Q E s := by
  obtain ⟨o, ho, hex, hd⟩ := R.ob
  have hsz := size_of R.en
  have hfew := R.few
  refine Calls.call_function_entry kind_sorted plain_sorted entry_sorted (args_sorted1 _) ?_
  unfold Builtin.«sorted»
  refine wpAny_bind (m := checkCount "sorted" 1 1 _) (wpAny_pure ?_)
  refine wpAny_bind (collect_set (A := A.in1) hh ⟨o, ho, hex.1, hd⟩ R.fits (by unfold scanBound; omega) R.tab.ris R.led fun s1 vs k1 hz g1 o1 pm => ?_)
  have hes : es.toList.map (·.2) = refsV L := by
    rw [R.en]
    unfold ents
    rw [List.map_map]
    rfl
  rw [hes] at pm
  obtain ⟨L1, rfl, p1⟩ := pick_perm pm
  have hlen : L1.length < 64 := by
    rw [p1.length_eq]
    exact hfew
  refine wpAny_bind (wpAny_newList ?_ (by rw [List.length_map, sizeLine_eq]; omega))
  have hoL : (s1.heap.push (seqObj "list" (refsV L1).toArray 0)).get? s1.heap.objs.size = some (seqObj "list" (refsV L1).toArray 0) := Heap.get?_push_size _ rfl
  have k2 : ∀ b o, s.heap.get? b = some o → (s1.heap.push (seqObj "list" (refsV L1).toArray 0)).get? b = some o := fun b o e => Heap.get?_push_of_some _ (k1 b o e)
  refine wpAny_bind (wpAny_holding (wpAny_call_entry slot_list_sort ⟨_, hoL, rfl⟩ entry_list_sort (sort_new (s := { s1 with heap := s1.heap.push (seqObj "list" (refsV L1).toArray 0) }) hoL hlen (fun p hp => tup_stay (R.tup p (p1.mem_iff.mp hp)) k2) (fun p hp => ht p (p1.mem_iff.mp hp)) fun out L' eo pk pw => ⟨_, rfl, ?_⟩) (args_list_sort _)))
  obtain ⟨c, hc⟩ := sortedHeap_at (out := out) hoL
  refine wpAny_pure ⟨_, rfl, h _ s1.heap.objs.size c out L' (fun b u e => ?_) g1 o1 hz hc eo (pk.trans p1) pw⟩
  have lt := Heap.lt_size (k1 b u e)
  show (sortedHeap (s1.heap.push (seqObj "list" (refsV L1).toArray 0)) s1.heap.objs.size (refsV L1) out).get? b = some u
  rw [sortedHeap_old (Nat.ne_of_lt lt) (by rw [size_push']; exact Nat.lt_succ_of_lt lt)]
  exact k2 b u e
end
/-! ### over the layer -/
def SetX (P : Program) (w : World) (a : Addr) (L : List TK) : HO := .ext fun h => ∃ (es : Array (Int × Value)) (ep : Nat) (t : SetTable), (∃ o, h.get? a = some o ∧ o.ExactSet ∧ o.data = .set es ep t) ∧ es.toList = ents (mixKind P w) L ∧ TabOk t (hashes (mixKind P w) L) ∧ (L.map (·.2)).Nodup ∧
  (w.params.followText "set-order" = true ∨ t.led = true) ∧ L.length * 5 < t.mask * 3 ∧ L.length < 64
theorem setX_new {P : Program} {w : World} {H : Hp} {h : Heap} {a : Addr} {L : List TK} {es : Array (Int × Value)} {ep : Nat} {t : SetTable} (R : Hs (mixKind P w) h a L es ep t) : ObjOk P w H h a (SetX P w a L) := by
  obtain ⟨o, ho, r⟩ := R.ob
  refine ⟨⟨es, ep, t, ⟨o, ho, r⟩, R.en, R.tab, R.nd, R.led, R.room, R.few⟩, ⟨o, ho⟩, fun h1 h2 z k => ?_⟩
  obtain ⟨e1, e2, e3, ⟨u, hu, r'⟩, q⟩ := z
  exact ⟨e1, e2, e3, ⟨u, k u hu, r'⟩, q⟩
theorem keys_items {P : Program} {w : World} : ∀ {k : List Key} {us : List Value}, Vals (k.map kV) us → ItemsAre (mixKind P w) k us
  | [], _, .nil => .nil
  | .inl i :: k, _, .cons r t => by
    obtain ⟨tk, rfl⟩ := r
    exact .cons (mixKind_int P w i tk) (keys_items t)
  | .inr z :: k, _, .cons r t => by
    obtain ⟨tk, rfl⟩ := r
    exact .cons (mixKind_str P w z tk) (keys_items t)
theorem refs_vals : ∀ {ks : List TK} {us : List Value}, Vals (refs ks) us → us = refsV ks
  | [], _, .nil => rfl
  | p :: ks, _, .cons r t => by
    cases r
    rw [refs_vals t]
    rfl
theorem vals_refs : ∀ ks : List TK, Vals (refs ks) (refsV ks)
  | [] => .nil
  | p :: ks => .cons rfl (vals_refs ks)
section
variable {X : Cx} {pins : List (Addr × Obj)} {σ : L2.St} {H : Hp} {s : Shared}
theorem key_at (I : L2.Inv X pins σ H s) {b : Addr} {k : List Key} (h : SqT X.K H b (k.map kV)) : IsTupleKey (mixKind X.prog X.w) s.heap k b := by
  obtain ⟨its, r, ⟨o, ho, hc, n, hd⟩, _⟩ := I.tuple h
  exact ⟨o, its.toArray, n, ho, hc, hd, by simpa using keys_items r⟩
/-- set(xs) -/
def rSetX (K : PySem.W.Frag) (P : Program) (w : World) : List V → Hp → VK → Prop := fun xs H Q => ∃ l ks, xs = [V.ref l] ∧ (SqL K H l (refs ks) ∨ SqT K H l (refs ks)) ∧ (∀ p ∈ ks, SqT K H p.1 (p.2.map kV)) ∧ ks.length < 64 ∧
  ∀ a L, H a = none → (∀ p ∈ L, p ∈ ks) → (∀ p ∈ ks, p.2 ∈ L.map (·.2)) → Q (.ref a) (upd H a (SetX P w a L))
theorem cr_setX (hc : X.calm = true) (hu : X.A.units + 64 < cLine) : CallR X (.type "set") (rSetX X.K X.prog X.w) := by
  rintro pins s σ H xs us Q I r ⟨l, ks, rfl, hl, hk, hf, q⟩
  rw [Vals.ref1 r]
  have hn : H s.heap.objs.size = none := I.hok.fresh (Nat.le_refl _)
  have fin : ∀ (h' : Heap) (tk : Nat) (L : List TK) es ep t, Hs (mixKind X.prog X.w) h' s.heap.objs.size L es ep t → Brought ks ks.length L → (∀ b o, s.heap.get? b = some o → h'.get? b = some o) → EP X pins σ Q (.ref s.heap.objs.size) { s with heap := h', toks := tk } := fun h' tk L es ep t R g k =>
    ⟨.ref s.heap.objs.size, upd H s.heap.objs.size (SetX X.prog X.w s.heap.objs.size L), I.laid (t' := tk) k (Nat.le_refl _) (setX_new R), rfl, q _ L hn (fun p hp => List.mem_of_mem_take (g.of p hp)) fun p hp => g.all p (by rw [List.take_length]; exact hp)⟩
  rcases hl with hl | hl
  · obtain ⟨its, rv, pl, hz⟩ := I.list hl
    exact set_of_list ks (I.ok.hd hc) pl.isList (by simpa using refs_vals rv) (fun p hp => key_at I (hk p hp)) hf (by omega) fin
  · obtain ⟨its, rv, pl, hz⟩ := I.tuple hl
    exact set_of_tuple ks (I.ok.hd hc) pl (by simpa using refs_vals rv) (fun p hp => key_at I (hk p hp)) hf (by omega) fin
/-- sorted(s), s such a set, or a list of ties -/
def rSortX (K : PySem.W.Frag) (P : Program) (w : World) : List V → Hp → VK → Prop := fun vs H Q => ∃ a L d B, vs = [V.ref a] ∧ (H a = some (SetX P w a L) ∨ (SqL K H a (refs L) ∧ L.length < 64)) ∧ (∀ p ∈ L, SqT K H p.1 (p.2.map kV)) ∧ (∀ p ∈ L, TieK B d p.2) ∧
  ∀ L' p, L'.Perm L → L'.Pairwise (fun p q => ordOf B p ≤ ordOf B q) → (H a = some (SetX P w a L) → (L'.map (·.2)).Nodup) → H p = none → Q (.ref p) (upd H p (.lst (refs L')))
theorem cr_sortX (hc : X.calm = true) : CallR X (.builtin "sorted") (rSortX X.K X.prog X.w) := by
  rintro pins s σ H vs us Q I r ⟨a, L, d, B, rfl, ha, hk, ht, q⟩
  rw [Vals.ref1 r]
  by_cases hset : H a = some (SetX X.prog X.w a L)
  · obtain ⟨⟨es, ep, t, ob, en, tab, nd, led, room, few⟩, _, _⟩ := I.hok a _ hset
    refine sorted_set ⟨ob, en, tab, nd, fun p hp => key_at I (hk p hp), led, room, few⟩ (I.ok.hd hc) ht fun s' p c out L' k g o hp hg ho pm pw => ?_
    have hlen : (refs L').length ≤ sizeLine := by
      rw [List.length_map, pm.length_eq, sizeLine_eq]
      omega
    have hn : H p = none := I.hok.fresh hp
    have hv : Vals (refs L') out.toList := by
      rw [ho]
      exact vals_refs L'
    have J := I.call (h' := s'.heap) (g' := s'.gens) (d' := s'.drawn) (t' := s'.toks) (ch := []) (Un.laid k hp hn) (I.hok.laid (o := .lst (refs L')) k hp ⟨hlen, out.toList, c, hv, hg⟩) (by rw [g]; exact I.bare) (fun _ z => nomatch z)
    have e : s' = { s with heap := s'.heap, gens := s'.gens, drawn := s'.drawn, toks := s'.toks } := by
      obtain ⟨a1, a2, a3, a4, a5⟩ := s'
      dsimp only at o
      subst o
      rfl
    rw [e]
    exact ⟨.ref p, _, J, rfl, q L' p pm pw (fun _ => (pm.map (·.2)).nodup_iff.mpr nd) hn⟩
  · rcases ha with ha | ⟨hl, h64⟩
    · exact absurd ha hset
    · obtain ⟨its, rv, pl, hz⟩ := I.list hl
      have ei := refs_vals rv
      subst ei
      refine sorted_list pl.isList h64 (fun p hp => key_at I (hk p hp)) ht fun h' p c out L' k hp hg ho pm pw => ?_
      have hlen : (refs L').length ≤ sizeLine := by
        rw [List.length_map, pm.length_eq, sizeLine_eq]
        omega
      have hv : Vals (refs L') out.toList := by
        rw [ho]
        exact vals_refs L'
      exact ⟨.ref p, _, I.laid (o := .lst (refs L')) (t' := s.toks) k hp ⟨hlen, out.toList, c, hv, hg⟩, rfl, q L' p pm pw (fun z => absurd z hset) (I.hok.fresh hp)⟩
end
end Sg
/-! list(text), d.setdefault(tuple, ..), enumerate(tuple). -/
namespace PySem
open Sem (wp)
theorem enum_one {v : Value} {o : Obj} {H : Heap → Prop} (B : Begins v o H) :
    Meets (Builtin.«enumerate.__new__» ⟨[.type "enumerate", v], []⟩) (fun _ R s => H s.heap ∧ R (.ok (.ret (.ref (s.heap.push o).objs.size))) { s with heap := (s.heap.push o).push { cls := .type "enumerate", data := .fields #[.none, .bool false, .ref s.heap.objs.size, rawInt 0, .none, .none] } }) :=
  .of_wp fun prog w A R s h => by
    obtain ⟨hp, g, d, tk, os⟩ := s
    obtain ⟨h1, h⟩ := h
    have z0 := sub_enumerate
    have go : ∀ {A' : Around} {E : Value → Shared → Prop} {Q : Value → Shared → Prop}, Q (.ref hp.objs.size) ⟨hp.push o, g, d, tk, os⟩ → wpAny (model prog w) A' (pyIter v) Q E ⟨hp, g, d, tk, os⟩ := fun q => B.iter prog w _ _ ⟨hp, g, d, tk, os⟩ _ h1 q
    wp_walk using go
    refine wpAny_stack_any fun st => wpAny_pure ?_
    split
    · rename_i c _ _ _ _ _
      cases (c == Value.type "enumerate")
      · wp_walk using go
        exact ⟨_, rfl, h⟩
      · wp_walk using go
        exact ⟨_, rfl, h⟩
    · wp_walk using go
      exact ⟨_, rfl, h⟩
theorem enum_tuple {prog : Program} {w : World} {A : Around} {E : Value → Shared → Prop} {s : Shared} {l : Addr} {items : Array Value} {Q : Value → Shared → Prop} (ht : s.heap.IsTuple l items)
    (h : ∀ h', IsEnum h' (s.heap.objs.size + 1) s.heap.objs.size 0 .none → h'.IsTupleIter s.heap.objs.size l 0 → h'.IsTuple l items → (∀ b o, s.heap.get? b = some o → h'.get? b = some o) → Q (.ref (s.heap.objs.size + 1)) { s with heap := h' }) :
    wpAny (model prog w) A (call (.type "enumerate") [.ref l]) Q E s := by
  refine callType_new F.called_enumerate (by decide) (F.typeCall_enumerate_1 _) (F.newCall_enumerate_1 _) (fun ob => F.args_object_init_2 ob _) F.entry_enumerate_new (enum_one (begins_tuple l items)) ⟨ht, ?_⟩
  have hz : (s.heap.push { cls := .type "tuple_iterator", data := .fields #[.ref l, .int 0 0] }).objs.size = s.heap.objs.size + 1 := Heap.size_push ..
  have kk : ∀ b o, s.heap.get? b = some o → ((s.heap.push { cls := .type "tuple_iterator", data := .fields #[.ref l, .int 0 0] }).push { cls := .type "enumerate", data := .fields #[.none, .bool false, .ref s.heap.objs.size, rawInt 0, .none, .none] }).get? b = some o := fun b o e => Heap.get?_push_of_some _ (Heap.get?_push_of_some _ e)
  have he : IsEnum ((s.heap.push { cls := .type "tuple_iterator", data := .fields #[.ref l, .int 0 0] }).push { cls := .type "enumerate", data := .fields #[.none, .bool false, .ref s.heap.objs.size, rawInt 0, .none, .none] }) (s.heap.objs.size + 1) s.heap.objs.size 0 .none := by
    have q := Heap.get?_push_size (s.heap.push { cls := .type "tuple_iterator", data := .fields #[.ref l, .int 0 0] }) (o := { cls := .type "enumerate", data := .fields #[.none, .bool false, .ref s.heap.objs.size, rawInt 0, .none, .none] }) rfl
    rw [hz] at q
    exact q
  show _ ∧ _
  rw [hz]
  exact ⟨⟨_, he, rfl⟩, h _ he ⟨_, Heap.get?_push_of_some _ (Heap.get?_push_size _ rfl), rfl, rfl⟩ (ht.at fun o e => kk l o e) kk⟩
end PySem
namespace Sg
open PySem PySem.Spec PyProof.Rows L2
/-! ### list('abc') -/
def signsV (z : Str) : List V := z.cps.toList.map fun c => V.str ⟨#[c]⟩
def rListS : List V → Hp → VK → Prop := fun xs H Q => ∃ z, xs = [.str z] ∧ z.length ≤ 1000 ∧ ∀ p, H p = none → Q (.ref p) (upd H p (.lst (signsV z)))
theorem cr_listS {X : Cx} (hc : X.calm = true) : CallR X (.type "list") rListS := by
  rintro pins s σ H xs us Q I r ⟨z, rfl, hz, q⟩
  obtain ⟨u, rfl, ⟨t, rfl⟩⟩ := vals1 r
  have hn : z.cps.size ≤ sizeLine := Nat.le_of_lt (small1000 hz)
  refine call_list_str (hn := hn) (I.ok.hd hc) z t fun h' tk acc c kk ho hi => ?_
  have hlen : (signsV z).length = z.cps.size := by
    unfold signsV
    rw [List.length_map, Array.length_toList]
  have hv : Vals (signsV z) acc.toList := by
    refine vals_of_at ?_ fun j x u hx hu => ?_
    · rw [hlen, Array.length_toList, hi.1]
    · unfold signsV at hx
      rw [List.getElem?_map] at hx
      rw [Array.getElem?_toList] at hu
      have sg := hi.2 j u hu
      obtain ⟨cc, tt, hcc, rfl⟩ := sg
      rw [Array.getElem?_toList, hcc] at hx
      cases hx
      exact ⟨_, rfl⟩
  exact ⟨.ref s.heap.objs.size, _, I.laid (o := .lst (signsV z)) (t' := tk) kk (Nat.le_refl _) ⟨by rw [hlen]; exact hn, acc.toList, c, hv, ho⟩, rfl, q _ (I.hok.fresh (Nat.le_refl _))⟩
/-! ### d.setdefault(k, x), k a tuple -/
section
variable {X : Cx} {pins : List (Addr × Obj)} {σ : L2.St} {H : Hp} {s : Shared} {a b : Addr} {r : Value} {y : V} {k : List Key} {A : Around} {E : Value → Shared → Prop}
theorem d_setT {kvs : List (List Key × V)} {Q : Value → Shared → Prop} (hu : A.units + 1 < cLine) (I : L2.Inv X pins σ H s) (e : H a = some (.dT kvs)) (eb : H b = some (.tup (k.map kV))) (rd : L2.RelV y r) (hl : kvs.length < sizeLine)
    (h1 : ∀ v, valV kvs k = some v → ∀ (u : Value) (s' : Shared), L2.Inv X pins σ H s' → L2.RelV v u → Q u s') (h2 : valV kvs k = none → ∀ (u : Value) (s' : Shared), L2.Inv X pins σ (upd H a (.dT (putK kvs k y))) s' → L2.RelV y u → Q u s') :
    wpAny (model X.prog X.w) A (call (.builtin "dict.setdefault") [.ref a, .ref b, r]) Q E s := by
  obtain ⟨z, hd, xs, rel, dd⟩ := dt_of I.hok e
  have hz : xs.length ≤ sizeLine := by
    rw [← Paired.length rel]
    exact z
  have q := rel.val k
  refine call_setdefault_heap (hsz := hz) (tupleKind_room_in1 hu) (key_of I.hok eb) hd dd (fun p hp => ?_) fun hn h' dd' hs => ?_
  · rw [hp] at q
    cases q0 : valV kvs k with
    | none =>
      rw [q0] at q
      exact (show False from q).elim
    | some v0 =>
      rw [q0] at q
      exact h1 v0 q0 _ _ (I.tok _) q
  · rw [hn] at q
    cases q0 : valV kvs k with
    | some v0 =>
      rw [q0] at q
      exact (show False from q).elim
    | none =>
      have hl2 : (putK kvs k y).length ≤ sizeLine := by
        have := length_putK kvs k y
        omega
      obtain ⟨ob, es, ep, hq, g2, g3, g4, _, g5⟩ := dd'
      refine h2 q0 _ _ (d_write I (by rw [e]; exact True.intro) hs ⟨ob, hq⟩ ⟨hl2, hd, _, (rel.put k eb rd).keeps fun c ys ec => ?_, ob, es, ep, hq, g2, g3, g4, g5⟩) rd
      rw [upd_ne (ne_of ec e (fun z => nomatch z))]
      exact ec
end
def tSetT (td ty tx : TE) : TE := fun σ H Q => td σ H fun x G => ∃ a kv0, x = .ref a ∧ G a = some (.dT kv0) ∧ ty σ G fun y J => tx σ J fun z L => ∃ b kvs k, y = .ref b ∧ L a = some (.dT kvs) ∧ L b = some (.tup (k.map kV)) ∧ kvs.length < sizeLine ∧
  (∀ v, valV kvs k = some v → Q v L) ∧ (valV kvs k = none → Q z (upd L a (.dT (putK kvs k z))))
theorem pe_setT {X : Cx} {o e f : Expr} {td ty tx : TE} {apos cpos : Pos} (hu : X.A.units + 1 < cLine) (ho : PE X o td) (he : PE X e ty) (hf : PE X f tx) (m : M2 X o "setdefault" apos e f cpos) : PE X (.Call (.Attribute o "setdefault" apos) [e, f] [] cpos) (tSetT td ty tx) := by
  refine ⟨fun pins s σ H Q I h => wpAny_Call_method m.base m.few m.line PySem.F.plainAttrs_dict PySem.F.slot_dict_setdefault PySem.F.type_dict_setdefault (thn (ho.run pins s σ H _ I h) fun u s1 ⟨x, G, I1, rx, a, kv0, ex, d, q1⟩ => ?_)⟩
  subst ex
  obtain rfl : u = Value.ref a := rx
  obtain ⟨t1, t2, _⟩ := isD_at I1 (a := a) (by first | exact .inr ⟨_, .inl d⟩ | exact ⟨_, .inr d⟩ | exact .inr ⟨_, d⟩ | (unfold IsD; simp [d]))
  refine ⟨t1, t2, ?_⟩
  rw [m.trees]
  refine Calls.callWith_builtin rfl (Calls.evalArgs_plain (Calls.spliced_cons (thn (he.run pins s1 σ G _ I1 q1) fun iv s2 ⟨y, J, I2, ry, q2⟩ =>
    Calls.spliced_cons (thn (hf.run pins s2 σ J _ I2 q2) fun fv s3 ⟨z, L, I3, rz, b, kvs, k, ey, ea, eb, hl, q3, q4⟩ => Calls.spliced_nil ?_))))
  subst ey
  cases (show iv = Value.ref b from ry)
  exact d_setT hu I3 ea eb rz hl (fun v hv u' s4 I4 r' => ⟨v, _, I4, r', q3 v hv⟩) fun hn u' s4 I4 r' => ⟨z, _, I4, r', q4 hn⟩
/-! ### for i, x in enumerate(xs), xs a list or a tuple -/
def IteT (K : PySem.W.Frag) (a : Addr) : It :=
  ⟨fun i H => ∃ xs x, SqT K H a xs ∧ xs[i]? = some x, fun i H v H' => ∃ T x, v = .ref T ∧ H T = none ∧ H' = upd H T (.tup [.int (i : Nat), x]) ∧ ∀ xs, SqT K H a xs → xs[i]? = some x, fun i H => ∃ xs, SqT K H a xs ∧ xs.length ≤ i⟩
theorem walk_enumT {K : PySem.W.Frag} {a : Addr} {xs : List V} : Walk (IteT K a) xs.length (fun H => SqT K H a xs) (YPair (fun i => some (.int (i : Nat))) (fun i => xs[i]?)) where
  goes := fun i H hi g => ⟨xs, xs[i], g, List.getElem?_eq_getElem hi⟩
  stops := fun H g => ⟨xs, g, Nat.le_refl _⟩
  yields := fun i H v H' hi g y => by
    obtain ⟨T, x, e, n, eH, h1⟩ := y
    exact ⟨T, _, x, e, n, eH, rfl, h1 _ g⟩
theorem turn_enumT {P : Program} {w : World} {K : PySem.W.Frag} {elts : List Expr} {kk : Nat} {tpos : Pos} {its : List Value} (a e it : Addr) (hne : e ≠ it) (hea : e ≠ a) (hia : a ≠ it) :
    Turn P w K (.Tuple elts kk tpos) (IteT K a) [e, it] e (fun i h => (∃ old, IsEnum h e it ((i : Nat) : Int) old) ∧ h.IsTupleIter it a i) where
  mem := by simp
  obj := fun i h st b hb => by
    obtain ⟨⟨old, he⟩, ⟨o, ho, hc, hd⟩⟩ := st
    have z : b = e ∨ b = it := by simpa using hb
    rcases z with rfl | rfl
    · exact ⟨_, he, fun v q => nomatch q⟩
    · exact ⟨o, ho, fun v q => by rw [hd] at q; cases q⟩
  keep := fun i h h' st k => let ⟨⟨old, he⟩, hi⟩ := st; ⟨⟨old, k e (by simp) _ he⟩, hi.at fun o q => k it (by simp) o q⟩
  item := by
    intro X hP hw hK hc i pins s σ H E I hf st hg
    subst hP hw hK
    obtain ⟨⟨old, he⟩, hit⟩ := st
    obtain ⟨xs, x, hq, hx⟩ := hg
    obtain ⟨us, rv, pl, hz⟩ := I.tuple hq
    obtain ⟨u, hu, ru⟩ := rv.get hx
    have hel : e < s.heap.objs.size := Heap.lt_size he
    have hil : it < s.heap.objs.size := by
      obtain ⟨_, q, _⟩ := hit
      exact Heap.lt_size q
    have hiu : i < us.toArray.size := by
      have := (List.getElem?_eq_some_iff.mp hu).1
      simpa using this
    refine wpAny_pyNext_enum_itemD (Draws.tuple (show X.A.in1.handled = none from by rw [show X.A.in1.handled = X.A.handled from rfl]; exact I.ok.hd hc) it a hia us.toArray) he ⟨hit, pl⟩ hiu hne (by simp [hne, hea]) fun v h' tk hPv ho hst' hT hsz hk => ?_
    have ev : v = u := by
      have q : us.toArray[i]? = some v := hPv
      have q2 : us.toArray[i]? = some u := by simpa using hu
      exact Option.some.inj (q.symm.trans q2)
    subst ev
    refine ⟨_, rfl, wpAny_letOwnedTupleGo_enum (s := { s with heap := h', toks := tk + 1 }) ho fun h2 he' sb => ?_⟩
    have hT2 : h2.get? s.heap.objs.size = some { cls := .type "tuple", data := .seq #[.int i tk, v] } := (sb.2 _ (Nat.ne_of_gt hel)).trans hT
    have new : ObjOk X.prog X.w (upd H s.heap.objs.size (.tup [.int (i : Nat), x])) h2 s.heap.objs.size (.tup [.int (i : Nat), x]) := ⟨by show 2 ≤ sizeLine; decide, [.int i tk, v], .cons ⟨_, rfl⟩ (.cons ru .nil), ⟨_, hT2, rfl, _, rfl⟩⟩
    have J := I.turnedNew (t' := tk + 1) (ch := [e, it]) (h' := h2) (fun b ob hb q => (sb.2 b (fun z => hb (by simp [z]))).trans (hk b ob (fun z => hb (by simp [z])) (fun z => hb (by simp [z])) q)) hf (Nat.le_refl _) new
    refine ⟨.ref s.heap.objs.size, _, J, rfl, ⟨_, x, rfl, I.hok.fresh (Nat.le_refl _), rfl, fun ys hy => by rw [I.tuple_inj hy hq]; exact hx⟩, ⟨⟨v, ?_⟩, hst'.1.at fun o q => (sb.2 it (Ne.symm hne)).trans q⟩, fun b hb => ?_⟩
    · rw [show ((i + 1 : Nat) : Int) = (i : Int) + 1 by omega]
      exact he'
    · have lt : b < s.heap.objs.size := by
        have z : b = e ∨ b = it := by simpa using hb
        rcases z with rfl | rfl
        · exact hel
        · exact hil
      rw [upd_ne (Nat.ne_of_lt lt)]
      exact (hf b hb).1
  done := by
    intro X hP hw hK hc i pins s σ H E I hf st hg
    subst hP hw hK
    obtain ⟨⟨old, he⟩, hit⟩ := st
    obtain ⟨xs, hq, hx⟩ := hg
    obtain ⟨us, rv, pl, hz⟩ := I.tuple hq
    obtain ⟨f0, f1, f2, f3, f4, f5⟩ := hf it (by simp)
    have hn : us.toArray[i]? = none := by
      have := rv.length
      simp
      omega
    have hh : X.A.in1.handled = none := by
      rw [show X.A.in1.handled = X.A.handled from rfl]
      exact I.ok.hd hc
    have D : Draws X.prog X.w X.A.in1 it [it, a] i (fun _ _ => False) (fun j h => j = i ∧ h.IsTupleIter it a i ∧ h.IsTuple a us.toArray) := {
      live := fun j h st => let ⟨o, ho, _⟩ := st.2.1; ⟨o, ho⟩
      frame := fun j h h' st k => ⟨st.1, st.2.1.at fun o q => k it (by simp) o q, st.2.2.at fun o q => k a (by simp) o q⟩
      item := fun j s Q E hj st _ => absurd (st.1 ▸ hj) (Nat.lt_irrefl _)
      done := fun s Q E st hE => wpAny_nextOf_tuple_end hh st.2.1 st.2.2 hn hE }
    exact wpAny_pyNext_enum_endD D he ⟨rfl, hit, pl⟩ fun h' eb => ⟨rfl, I.turned (t' := s.toks) (fun b o hb q => eb b o hb q) f0 f1 f3 f4 f5⟩
  self := fun A i s Q E st h => let ⟨⟨_, he⟩, _⟩ := st; wpAny_pyIter_enum he h
def iEnA (K : PySem.W.Frag) (ta : TA) : TI := fun σ H R => ta σ H fun vs G => ∃ a xs, vs = [.ref a] ∧ ((SqL K G a xs ∧ R (Ite K a) G) ∨ (SqT K G a xs ∧ R (IteT K a) G))
theorem pi_enA {X : Cx} {e : Expr} {ta : TA} {p pos tpos : Pos} {elts : List Expr} {kk : Nat} (hg : Gl X "enumerate") (hm : X.mg "enumerate" = none) (ha : PA X [e] ta) (hs : starEach [e] X.env = [(false, eval e X.env)] := by rfl) :
    PI X (.Tuple elts kk tpos) (.Call (.Name "enumerate" p) [e] [] pos) (iEnA X.K ta) := by
  refine ⟨fun pins s σ H R I h => Call_ (ld_blt I hg hm boot_enumerate (PyProof.Rows.callWith_type1 (thn (ha.run pos pins s σ H _ I h) fun us s1 ⟨vs, G, I1, r1, q1⟩ => ?_) hs rfl))⟩
  obtain ⟨a, xs, ex, q1⟩ := q1
  subst ex
  obtain ⟨u, rfl, ru⟩ := vals1 r1
  cases ru
  have fresh : ∀ b, b ∈ [s1.heap.objs.size + 1, s1.heap.objs.size] → FpOk X pins G b := fun b hb => by
    have z : b = s1.heap.objs.size + 1 ∨ b = s1.heap.objs.size := by simpa using hb
    have le : s1.heap.objs.size ≤ b := by
      rcases z with z | z
      · rw [z]
        exact Nat.le_succ _
      · rw [z]
        exact Nat.le_refl _
    exact I1.fpOk le (I1.hok.fresh le)
  rcases q1 with ⟨hq, q⟩ | ⟨hq, q⟩
  · obtain ⟨its, rv, pl, hz⟩ := I1.list hq
    refine call_enumerate_list pl.isList fun h' he hit hsz hk => wpAny_pyIter_enum he ?_
    exact ⟨s1.heap.objs.size + 1, [s1.heap.objs.size + 1, s1.heap.objs.size], _, _, G, rfl, I1.kept (t' := s1.toks) hk, turn_enum a (s1.heap.objs.size + 1) s1.heap.objs.size, ⟨⟨.none, he⟩, hit, Nat.succ_ne_self _⟩, fresh, q⟩
  · obtain ⟨its, rv, pl, hz⟩ := I1.tuple hq
    have lt : a < s1.heap.objs.size := by
      obtain ⟨o, ho, _⟩ := id pl
      exact Heap.lt_size ho
    refine enum_tuple pl fun h' he hit hT hk => wpAny_pyIter_enum he ?_
    exact ⟨s1.heap.objs.size + 1, [s1.heap.objs.size + 1, s1.heap.objs.size], _, _, G, rfl, I1.kept (t' := s1.toks) hk, turn_enumT (its := its) a (s1.heap.objs.size + 1) s1.heap.objs.size (Nat.succ_ne_self _) (Nat.ne_of_gt (Nat.lt_succ_of_lt lt)) (Nat.ne_of_lt lt), ⟨⟨.none, he⟩, hit⟩, fresh, q⟩
end Sg
namespace Sg
open PySem PySem.Spec PyProof.Rows L2
/-! ### ties as data -/
def kD : Key → PyData
  | .inl i => .int i
  | .inr x => .str x
def tD (k : List Key) : PyData := .tuple (k.map kD)
theorem dp_k (K : PySem.W.Frag) (H : Hp) (k : Key) : Dp K H (kV k) (kD k) := by
  cases k with
  | inl i => exact .int i
  | inr x => exact .str x
theorem dp_ks (K : PySem.W.Frag) (H : Hp) : ∀ ks : List Key, DpAll K H (ks.map kV) (ks.map kD)
  | [] => .nil
  | k :: ks => .cons (dp_k K H k) (dp_ks K H ks)
theorem dp_tie {K : PySem.W.Frag} {H : Hp} {a : Addr} {k : List Key} (h : SqT K H a (k.map kV)) : Dp K H (.ref a) (tD k) := .tup h (dp_ks K H k)
theorem eqv_k (a b : Key) : PyData.eqv (kD a) (kD b) = decide (a = b) := by
  cases a with
  | inl i =>
    cases b with
    | inl j =>
      show PyData.eqv (.int i) (.int j) = _
      rw [PyData.eqv]
      by_cases h : i = j
      · subst h
        simp
      · rw [decide_eq_false (fun z => h (Sum.inl.inj z))]
        exact beq_false_of_ne h
    | inr y =>
      show PyData.eqv (.int i) (.str y) = _
      rw [PyData.eqv, decide_eq_false (fun z => nomatch z)]
  | inr x =>
    cases b with
    | inl j =>
      show PyData.eqv (.str x) (.int j) = _
      rw [PyData.eqv, decide_eq_false (fun z => nomatch z)]
    | inr y =>
      show PyData.eqv (.str x) (.str y) = _
      rw [PyData.eqv]
      by_cases h : x = y
      · subst h
        simp
      · rw [decide_eq_false (fun z => h (Sum.inr.inj z))]
        exact beq_false_of_ne h
theorem eqv_ks : ∀ k k' : List Key, PyData.eqvAll (k.map kD) (k'.map kD) = decide (k = k')
  | [], [] => by rw [List.map_nil, PyData.eqvAll, decide_eq_true rfl]
  | [], b :: bs => by rw [List.map_nil, List.map_cons, PyData.eqvAll, decide_eq_false (fun z => nomatch z)]
  | a :: as, [] => by rw [List.map_nil, List.map_cons, PyData.eqvAll, decide_eq_false (fun z => nomatch z)]
  | a :: as, b :: bs => by
    rw [List.map_cons, List.map_cons, PyData.eqvAll, eqv_k, eqv_ks as bs]
    by_cases h1 : a = b
    · by_cases h2 : as = bs
      · subst h1 h2
        simp
      · rw [decide_eq_false h2, Bool.and_false, decide_eq_false (fun z => h2 (List.cons.inj z).2)]
    · rw [decide_eq_false h1, Bool.false_and, decide_eq_false (fun z => h1 (List.cons.inj z).1)]
theorem eqv_tie (k k' : List Key) : PyData.eqv (tD k) (tD k') = decide (k = k') := by
  unfold tD
  rw [PyData.eqv]
  exact eqv_ks k k'
def okK : Key → Bool
  | .inl _ => true
  | .inr x => PyData.strOk x
theorem can_k {k : Key} (h : okK k = true) : PyData.canLay0 (kD k) = true := by
  cases k with
  | inl i =>
    show PyData.canLay0 (.int i) = true
    rw [PyData.canLay0]
  | inr x =>
    show PyData.canLay0 (.str x) = true
    rw [PyData.canLay0]
    exact h
theorem can_all : ∀ {ds : List PyData}, (∀ d ∈ ds, PyData.canLay0 d = true) → PyData.canLayAll0 ds = true
  | [], _ => by rw [PyData.canLayAll0]
  | d :: ds, h => by
    rw [PyData.canLayAll0, h d (List.mem_cons_self ..), can_all fun e he => h e (List.mem_cons_of_mem _ he)]
    rfl
theorem deep_all {n : Nat} : ∀ {ds : List PyData}, (∀ d ∈ ds, PyData.depth d ≤ n) → PyData.depthAll ds ≤ n
  | [], _ => by
    rw [PyData.depthAll]
    exact Nat.zero_le _
  | d :: ds, h => by
    rw [PyData.depthAll]
    exact Nat.max_le.mpr ⟨h d (List.mem_cons_self ..), deep_all fun e he => h e (List.mem_cons_of_mem _ he)⟩
theorem deep_k (k : Key) : PyData.depth (kD k) ≤ 0 := by
  cases k with
  | inl i =>
    show PyData.depth (.int i) ≤ 0
    simp [PyData.depth]
  | inr x =>
    show PyData.depth (.str x) ≤ 0
    simp [PyData.depth]
theorem can_tie {k : List Key} (h : ∀ z ∈ k, okK z = true) : PyData.canLay0 (tD k) = true := by
  unfold tD
  rw [PyData.canLay0]
  exact can_all fun d hd => by
    obtain ⟨z, hz, rfl⟩ := List.mem_map.mp hd
    exact can_k (h z hz)
theorem deep_tie (k : List Key) : PyData.depth (tD k) ≤ 1 := by
  unfold tD
  rw [PyData.depth]
  have := deep_all (n := 0) (ds := k.map kD) fun d hd => by
    obtain ⟨z, hz, rfl⟩ := List.mem_map.mp hd
    exact deep_k z
  omega
theorem shaped_tie {k : List Key} (h : ∀ z ∈ k, okK z = true) : SeqAt.shaped (tD k) = true := by
  unfold SeqAt.shaped
  have := deep_tie k
  rw [can_tie h, decide_eq_true (by omega)]
  rfl
theorem TieK.ok {d : Nat} {k : List Key} (t : TieK 128 d k) : ∀ z ∈ k, okK z = true := by
  obtain ⟨c, ns, rfl, _, b⟩ := t
  intro z hz
  rcases List.mem_cons.mp hz with rfl | hz
  · have : (c : Int) < 128 := (b.head).2
    show PyData.strOk ⟨#[c]⟩ = true
    unfold PyData.strOk
    simp
    omega
  · obtain ⟨n, _, rfl⟩ := List.mem_map.mp hz
    rfl
/-- a list of ties as data -/
def lD (ks : List TK) : PyData := .list (ks.map fun p => tD p.2)
theorem dp_refs {K : PySem.W.Frag} {H : Hp} : ∀ {ks : List TK}, (∀ p ∈ ks, SqT K H p.1 (p.2.map kV)) → DpAll K H (refs ks) (ks.map fun p => tD p.2)
  | [], _ => .nil
  | p :: ks, h => .cons (dp_tie (h p (List.mem_cons_self ..))) (dp_refs fun q hq => h q (List.mem_cons_of_mem _ hq))
theorem dp_list {K : PySem.W.Frag} {H : Hp} {a : Addr} {ks : List TK} (hl : SqL K H a (refs ks)) (h : ∀ p ∈ ks, SqT K H p.1 (p.2.map kV)) : Dp K H (.ref a) (lD ks) := .lst hl (dp_refs h)
theorem can_list {ks : List TK} (h : ∀ p ∈ ks, ∀ z ∈ p.2, okK z = true) : PyData.canLay0 (lD ks) = true := by
  unfold lD
  rw [PyData.canLay0]
  exact can_all fun d hd => by
    obtain ⟨z, hz, rfl⟩ := List.mem_map.mp hd
    exact can_tie (h z hz)
theorem deep_list (ks : List TK) : PyData.depth (lD ks) ≤ 2 := by
  unfold lD
  rw [PyData.depth]
  have := deep_all (n := 1) (ds := ks.map fun p => tD p.2) fun d hd => by
    obtain ⟨z, hz, rfl⟩ := List.mem_map.mp hd
    exact deep_tie z.2
  omega
theorem shaped_list {ks : List TK} (h : ∀ p ∈ ks, ∀ z ∈ p.2, okK z = true) : SeqAt.shaped (lD ks) = true := by
  unfold SeqAt.shaped
  have := deep_list ks
  rw [can_list h, decide_eq_true (by omega)]
  rfl
theorem eqv_nil (ks : List TK) : PyData.eqv (lD ks) (.list []) = decide (ks = []) := by
  unfold lD
  cases ks with
  | nil => simp [PyData.eqv, PyData.eqvAll]
  | cons p ks => simp [PyData.eqv, PyData.eqvAll]
/-! ### the order of ties tells them apart -/
theorem code_inj {B : Int} : ∀ ns ms : List Int, ns.length = ms.length → TS.Bd B ns → TS.Bd B ms → TS.code B ns = TS.code B ms → ns = ms
  | [], [], _, _, _, _ => rfl
  | [], _ :: _, h, _, _, _ => by cases h
  | _ :: _, [], h, _, _, _ => by cases h
  | x :: xs, y :: ys, hl, h1, h2, e => by
    have hl' : xs.length = ys.length := Nat.succ.inj hl
    rcases Int.lt_trichotomy x y with h | h | h
    · have := TS.code_lt hl' h1.tail h2.tail h
      omega
    · subst h
      simp only [TS.code, hl'] at e
      rw [code_inj xs ys hl' h1.tail h2.tail (by omega)]
    · have := TS.code_lt hl'.symm h2.tail h1.tail h
      omega
theorem ord_inj {B : Int} {d : Nat} {p q : TK} (t1 : TieK B d p.2) (t2 : TieK B d q.2) (e : ordOf B p = ordOf B q) : p.2 = q.2 := by
  obtain ⟨c, ns, e1, l1, b1⟩ := t1
  obtain ⟨c', ms, e2, l2, b2⟩ := t2
  unfold ordOf at e
  rw [e1, e2] at e
  have f1 : (Sum.inr ⟨#[c]⟩ :: ns.map Sum.inl : List Key).map numK = (c : Int) :: ns := by
    rw [List.map_cons, nums_inl]
    rfl
  have f2 : (Sum.inr ⟨#[c']⟩ :: ms.map Sum.inl : List Key).map numK = (c' : Int) :: ms := by
    rw [List.map_cons, nums_inl]
    rfl
  rw [f1, f2] at e
  have := code_inj _ _ (by rw [List.length_cons, List.length_cons]; omega) b1 b2 e
  injection this with h1 h2
  have h1' : c = c' := Int.ofNat.inj h1
  rw [e1, e2, h1', h2]
theorem rise_eq : ∀ l m : List Int, l.Pairwise (· < ·) → m.Pairwise (· < ·) → (∀ x, x ∈ l ↔ x ∈ m) → l = m
  | [], [], _, _, _ => rfl
  | [], y :: _, _, _, h => by
    have := (h y).mpr (List.mem_cons_self ..)
    cases this
  | x :: _, [], _, _, h => by
    have := (h x).mp (List.mem_cons_self ..)
    cases this
  | x :: l, y :: m, h1, h2, h => by
    have a1 := List.pairwise_cons.mp h1
    have a2 := List.pairwise_cons.mp h2
    have exy : x = y := by
      rcases List.mem_cons.mp ((h x).mp (List.mem_cons_self ..)) with e | e
      · exact e
      · rcases List.mem_cons.mp ((h y).mpr (List.mem_cons_self ..)) with e' | e'
        · exact e'.symm
        · have := a2.1 x e
          have := a1.1 y e'
          omega
    subst exy
    rw [rise_eq l m a1.2 a2.2 fun z => ⟨fun hz => ?_, fun hz => ?_⟩]
    · rcases List.mem_cons.mp ((h z).mp (List.mem_cons_of_mem _ hz)) with e | e
      · have := a1.1 z hz
        omega
      · exact e
    · rcases List.mem_cons.mp ((h z).mpr (List.mem_cons_of_mem _ hz)) with e | e
      · have := a2.1 z hz
        omega
      · exact e
theorem keys_eq {B : Int} {d : Nat} : ∀ {U V : List TK}, (∀ p ∈ U, TieK B d p.2) → (∀ p ∈ V, TieK B d p.2) → U.map (ordOf B) = V.map (ordOf B) → U.map (·.2) = V.map (·.2)
  | [], [], _, _, _ => rfl
  | [], _ :: _, _, _, h => by cases h
  | _ :: _, [], _, _, h => by cases h
  | p :: U, q :: V, h1, h2, h => by
    rw [List.map_cons, List.map_cons] at h
    injection h with ha hb
    rw [List.map_cons, List.map_cons, ord_inj (h1 p (List.mem_cons_self ..)) (h2 q (List.mem_cons_self ..)) ha, keys_eq (fun z hz => h1 z (List.mem_cons_of_mem _ hz)) (fun z hz => h2 z (List.mem_cons_of_mem _ hz)) hb]
/-- rising, each key once: strictly -/
theorem strict_of {B : Int} {d : Nat} : ∀ {U : List TK}, (∀ p ∈ U, TieK B d p.2) → (U.map (·.2)).Nodup → U.Pairwise (fun p q => ordOf B p ≤ ordOf B q) → (U.map (ordOf B)).Pairwise (· < ·)
  | [], _, _, _ => List.Pairwise.nil
  | p :: U, ht, nd, ris => by
    rw [List.map_cons] at nd ⊢
    have a1 := List.nodup_cons.mp nd
    have a2 := List.pairwise_cons.mp ris
    refine List.pairwise_cons.mpr ⟨fun x hx => ?_, strict_of (fun z hz => ht z (List.mem_cons_of_mem _ hz)) a1.2 a2.2⟩
    obtain ⟨q, hq, rfl⟩ := List.mem_map.mp hx
    have h1 := a2.1 q hq
    have h2 : ordOf B p ≠ ordOf B q := fun e => a1.1 (by
      rw [ord_inj (ht p (List.mem_cons_self ..)) (ht q (List.mem_cons_of_mem _ hq)) e]
      exact List.mem_map.mpr ⟨q, hq, rfl⟩)
    omega
theorem same_keys {B : Int} {d : Nat} {U V : List TK} (h1 : ∀ p ∈ U, TieK B d p.2) (h2 : ∀ p ∈ V, TieK B d p.2) (n1 : (U.map (·.2)).Nodup) (n2 : (V.map (·.2)).Nodup) (r1 : U.Pairwise fun p q => ordOf B p ≤ ordOf B q)
    (r2 : V.Pairwise fun p q => ordOf B p ≤ ordOf B q) (h : ∀ k, k ∈ U.map (·.2) ↔ k ∈ V.map (·.2)) : U.map (·.2) = V.map (·.2) := by
  refine keys_eq h1 h2 (rise_eq _ _ (strict_of h1 n1 r1) (strict_of h2 n2 r2) fun x => ?_)
  have go : ∀ {S T : List TK}, (∀ k, k ∈ S.map (·.2) → k ∈ T.map (·.2)) → x ∈ S.map (ordOf B) → x ∈ T.map (ordOf B) := fun {S T} g hx => by
    obtain ⟨p, hp, rfl⟩ := List.mem_map.mp hx
    obtain ⟨q, hq, e⟩ := List.mem_map.mp (g p.2 (List.mem_map.mpr ⟨p, hp, rfl⟩))
    refine List.mem_map.mpr ⟨q, hq, ?_⟩
    show TS.code B (q.2.map numK) = TS.code B (p.2.map numK)
    rw [show q.2 = p.2 from e]
  exact ⟨go fun k => (h k).mp, go fun k => (h k).mpr⟩
end Sg
namespace Wb
open PySem PySem.Spec PyProof.Rows L2
def topS (i : Nat) : Stmt := PySem.Challenge.pw_wardweb_k02_webs_refused.main.body.getD i (.Pass ⟨0, 0, 0, 0⟩)
abbrev sBox : Stmt := topS 20
abbrev sTake : Stmt := topS 21
abbrev sOne : Stmt := topS 22
/-! ### the drawing box -/
def bxO (q : Addr) (i r k : Int) : HO := .lst [.ref q, .int i, .int r, .int k]
def Bx (H : Hp) (b q : Addr) : Prop := ∃ (ns : List Int) (i r k : Int), H b = some (bxO q i r k) ∧ H q = some (.lst (ns.map V.int)) ∧ 0 ≤ i ∧ 0 ≤ r ∧ 0 ≤ k ∧ k < 2147483563
/-- all but b stands as it stood -/
def Kp (b : Addr) (H H' : Hp) : Prop := ∀ c, c ≠ b → H' c = H c
theorem box_ne {H : Hp} {b q : Addr} {ns : List Int} {i r k : Int} (hb : H b = some (bxO q i r k)) (hq : H q = some (.lst (ns.map V.int))) : q ≠ b := fun e => by
  subst e
  rw [hb] at hq
  injection hq with hq
  injection hq with hq
  cases ns with
  | nil => cases hq
  | cons n r => cases hq
section
variable {P : Program} {w : World} {K : PySem.W.Frag} {mg : Str → Option Value} {base : Heap}
def spTake : Sp := fun vs H Q _ => ∃ (b q : Addr) (many : Int), vs = [.ref b, .int many] ∧ Bx H b q ∧ 0 < many ∧ many < 2 ^ 100 ∧ ∀ v H', 0 ≤ v → v < many → Bx H' b q → Kp b H H' → Q (.int v) H'
theorem scT : FnScope ["_law_box_here", "_law_many", "_law_cell", "_law_got", "_law_seed"] ["_law_box_here", "_law_many"] (defScope sTake) := ⟨rfl, rfl, rfl, by decide +kernel, rfl, by decide +kernel, by decide +kernel⟩
theorem ok_take {f : Addr} {fd : FuncData} (F : Fun K "_law_take" "_law_take" sTake f fd) (ml : mg "len" = none) : FnOk P w K mg base CX0 1 f fd ["_law_box_here", "_law_many"] spTake := by
  refine F.ok scT (fun vs H Q E h => ?_) (fun cdv A outer s H vs Q E hr h => ?_)
  · obtain ⟨b, q, many, rfl, _⟩ := h
    rfl
  · obtain ⟨b, q, many, rfl, ⟨ns, i, r, k, hb, hq, hi, hr0, hk, hk2⟩, hm, hm2, K1⟩ := h
    refine ⟨_, C8.pss_cut (ps_if (PW.pt (pw_and (pt_cmpR op_eq (pe_ix ix_list (pv 0) pe_int (fun _ _ => rfl)) pe_int (nomark _)) (pw_and1 (pt_cmpR op_lt (pe_ix ix_list (pv 0) pe_int (fun _ _ => rfl)) (pe_callB call_len_seq (by rfl) ml PySem.boot_len (pa_cons (pe_ix ix_list (pv 0) pe_int (fun _ _ => rfl)) pa_nil)) (nomark _)))))
        (pss_cons (ps_set (i := 2) scT.nd rfl (.inl rfl) (pe_ix ix_list (pe_ix ix_list (pv 0) pe_int (fun _ _ => rfl)) (pe_ix ix_list (pv 0) pe_int (fun _ _ => rfl)) (fun _ _ => rfl)))
        (pss_cons (ps_asg (pe_op op_add (pe_ix ix_list (pv 0) pe_int (fun _ _ => rfl)) pe_int) (pg_sub (pv 0) pe_int set_list))
        (pss_one (ps_if (pt_cmpR op_ge (pv 2) (pe_op op_pow pe_int pe_int) (nomark _))
          (pss_one (ps_asg (pv 2) (pg_sub (pv 0) pe_int set_list)))
          (pss_one (ps_asg (pe_op op_mod (pe_op op_add (pe_op op_add (pe_op op_mul (pe_ix ix_list (pv 0) pe_int (fun _ _ => rfl)) pe_int) (pe_op op_mul (pe_op op_mod (pv 2) pe_int) pe_int)) (pe_ix ix_list (pv 0) pe_int (fun _ _ => rfl))) pe_int) (pg_sub (pv 0) pe_int set_list))))))) pss_nil)
      (pss_cons (ps_if (pt_cmpR op_gt (pe_ix ix_list (pv 0) pe_int (fun _ _ => rfl)) pe_int (nomark _))
        (pss_cons (ps_set (i := 3) scT.nd rfl (.inl rfl) (pe_op op_mod (pe_ix ix_list (pv 0) pe_int (fun _ _ => rfl)) (pv 1)))
        (pss_cons (ps_asg (pe_op op_fdivW (pe_ix ix_list (pv 0) pe_int (fun _ _ => rfl)) (pv 1)) (pg_sub (pv 0) pe_int set_list))
        (pss_one (ps_ret (pv 3))))) pss_nil)
      (pss_cons (ps_set (i := 4) scT.nd rfl (.inl rfl) (pe_ix ix_list (pv 0) pe_int (fun _ _ => rfl)))
      (pss_cons (ps_asg (pe_op op_mod (pe_op op_add (pe_op op_add (pe_op op_mul (pv 4) (pv 4)) (pe_op op_mul (pv 4) pe_int)) pe_int) pe_int) (pg_sub (pv 0) pe_int set_list))
      (pss_one (ps_ret (pe_op op_mod (pe_op op_add (pe_op op_fdiv (pe_ix ix_list (pv 0) pe_int (fun _ _ => rfl)) pe_int) (pe_op op_mul (pe_op op_mod (pe_ix ix_list (pv 0) pe_int (fun _ _ => rfl)) pe_int) pe_int)) (pv 1))))))), ?_⟩
    refine ⟨fun σ' H' => ∃ y2 y3 y4 i' r' k', σ' = [some (.ref b), some (.int many), y2, y3, y4] ∧ H' = upd H b (bxO q i' r' k') ∧ 0 ≤ i' ∧ 0 ≤ r' ∧ 0 ≤ k' ∧ k' < 2147483563, ?_, ?_⟩
    · have own : H = upd H b (bxO q i r k) := by
        funext c
        by_cases e : c = b
        · rw [e, upd_same, hb]
        · rw [upd_ne e]
      refine ⟨_, rfl, b, _, 2, .int r, rfl, rfl, SqL.of hb, atI_nat (j := 2) rfl, rfl, _, rfl, ?_⟩
      refine ite2 (fun e1 => ?_) (fun e1 => ?_)
      · refine ⟨_, rfl, b, _, 1, .int i, rfl, rfl, SqL.of hb, atI_nat (j := 1) rfl, _, rfl, b, _, 0, .ref q, rfl, rfl, SqL.of hb, atI_nat (j := 0) rfl, q, _, rfl, .inl (SqL.of hq), _, _, rfl, rfl, _, rfl, ?_⟩
        refine ite2 (fun e2 => ?_) (fun e2 => ?_)
        · have hlt : i < ((ns.map V.int).length : Int) := of_decide_eq_true e2
          have hj : i.toNat < ns.length := by
            rw [List.length_map] at hlt
            omega
          have gi : atI (ns.map V.int) i = some (.int ns[i.toNat]) := at_of (j := i.toNat) (by omega) (by
            rw [List.getElem?_map, List.getElem?_eq_getElem hj]
            rfl)
          have nqb : q ≠ b := box_ne hb hq
          -- cell = box[0][box[1]]
          refine ⟨_, rfl, b, _, 0, .ref q, rfl, rfl, SqL.of hb, atI_nat (j := 0) rfl, _, rfl, b, _, 1, .int i, rfl, rfl, SqL.of hb, atI_nat (j := 1) rfl, q, _, i, _, rfl, rfl, SqL.of hq, gi, ?_⟩
          -- box[1] = box[1] + 1
          refine ⟨_, rfl, b, _, 1, .int i, rfl, rfl, SqL.of hb, atI_nat (j := 1) rfl, _, _, rfl, rfl, _, rfl, b, _, 1, 1, rfl, rfl, hb, rfl, ?_⟩
          refine ⟨_, rfl, 10, 18, rfl, rfl, ⟨by decide, by decide, by decide⟩, _, _, rfl, rfl, _, rfl, ?_⟩
          refine ite2 (fun e3 => ?_) (fun e3 => ?_)
          · have h3 : (10 : Int) ^ (18 : Int).toNat ≤ ns[i.toNat] := of_decide_eq_true e3
            refine ⟨_, rfl, _, rfl, b, _, 2, 2, rfl, rfl, upd_same, rfl, ?_⟩
            refine ⟨_, _, _, i + 1, ns[i.toNat], k, rfl, ?_, by omega, ?_, hk, hk2⟩
            · rw [upd_upd]
              rfl
            · have : (0 : Int) ≤ (10 : Int) ^ (18 : Int).toNat := by decide
              omega
          · refine ⟨_, rfl, b, _, 3, .int k, rfl, rfl, SqL.of upd_same, atI_nat (j := 3) rfl, k, 40692, rfl, rfl, .inr ⟨by decide, by decide⟩, _, rfl, _, 2147483563, rfl, rfl, (by show (0 : Int) < 2147483563; decide), _, 53, rfl, rfl, .inr ⟨by decide, by decide⟩, _, _, rfl, rfl, _, rfl, b, _, 1, .int (i + 1), rfl, rfl, SqL.of upd_same, atI_nat (j := 1) rfl, _, _, rfl, rfl, _, 2147483563, rfl, rfl, (by show (0 : Int) < 2147483563; decide), ?_⟩
            refine ⟨_, rfl, b, _, 3, 3, rfl, rfl, upd_same, rfl, ?_⟩
            refine ⟨_, _, _, i + 1, r, _, rfl, by rw [upd_upd]; rfl, by omega, hr0, Int.emod_nonneg _ (by decide), Int.emod_lt_of_pos _ (by decide)⟩
        · exact ⟨_, _, _, i, r, k, rfl, own, hi, hr0, hk, hk2⟩
      · exact ⟨_, _, _, i, r, k, rfl, own, hi, hr0, hk, hk2⟩
    · rintro σ' H' ⟨y2, y3, y4, i', r', k', rfl, rfl, hi', hr', hk', hk2'⟩
      have nqb : q ≠ b := box_ne hb hq
      have hq' : ∀ o, (upd H b o) q = some (.lst (ns.map V.int)) := fun o => by
        rw [upd_ne nqb]
        exact hq
      have kp : ∀ o, Kp b H (upd H b o) := fun o c hc => upd_ne hc
      refine ⟨_, rfl, b, _, 2, .int r', rfl, rfl, SqL.of upd_same, atI_nat (j := 2) rfl, _, _, rfl, rfl, _, rfl, ?_⟩
      refine ite2 (fun e1 => ?_) (fun e1 => ?_)
      · refine ⟨_, rfl, b, _, 2, .int r', rfl, rfl, SqL.of upd_same, atI_nat (j := 2) rfl, _, rfl, _, _, rfl, rfl, hm, ?_⟩
        refine ⟨_, rfl, b, _, 2, .int r', rfl, rfl, SqL.of upd_same, atI_nat (j := 2) rfl, _, rfl, _, _, rfl, rfl, wide_div (b := 100) hm (by omega) (by decide) (by decide), ?_⟩
        refine ⟨_, rfl, b, _, 2, 2, rfl, rfl, upd_same, rfl, _, rfl, ?_⟩
        rw [upd_upd]
        exact K1 _ _ (Int.emod_nonneg _ (by omega)) (Int.emod_lt_of_pos _ hm) ⟨ns, i', r' / many, k', upd_same, hq' _, hi', Int.ediv_nonneg hr' (by omega), hk', hk2'⟩ (kp _)
      · refine ⟨_, rfl, b, _, 3, .int k', rfl, rfl, SqL.of upd_same, atI_nat (j := 3) rfl, ?_⟩
        have hb1 : (-(2 ^ 64) < k' ∧ k' < 2 ^ 64) := ⟨by omega, by omega⟩
        refine ⟨_, rfl, _, rfl, _, _, rfl, rfl, .inl hb1, _, rfl, _, 39373, rfl, rfl, .inl hb1, _, _, rfl, rfl, _, 90001, rfl, rfl, _, 2147483563, rfl, rfl, (by show (0 : Int) < 2147483563; decide), ?_⟩
        refine ⟨_, rfl, b, _, 3, 3, rfl, rfl, upd_same, rfl, ?_⟩
        have z1 := Int.emod_nonneg (k' * k' + k' * 39373 + 90001) (show (2147483563 : Int) ≠ 0 by decide)
        have z2 := Int.emod_lt_of_pos (k' * k' + k' * 39373 + 90001) (show (0 : Int) < 2147483563 by decide)
        refine ⟨_, rfl, b, _, 3, _, rfl, rfl, SqL.of upd_same, atI_nat (j := 3) rfl, _, 59, rfl, rfl, ⟨by decide, by decide⟩, _, rfl, b, _, 3, _, rfl, rfl, SqL.of upd_same, atI_nat (j := 3) rfl, _, 8117, rfl, rfl, (by show (0 : Int) < 8117; decide), _, 211, rfl, rfl, .inr ⟨by decide, by decide⟩, _, _, rfl, rfl, _, rfl, _, _, rfl, rfl, hm, ?_⟩
        rw [upd_upd]
        exact K1 _ _ (Int.emod_nonneg _ (by omega)) (Int.emod_lt_of_pos _ hm) ⟨ns, i', r', _, upd_same, hq' _, hi', hr', z1, z2⟩ (kp _)
end
end Wb
namespace Wb
open PySem PySem.Spec PyProof.Rows L2
abbrev sHue : Stmt := topS 26
abbrev sArrow : Stmt := topS 28
theorem same_upd {H : Hp} {p : Addr} {o : HO} (h : H p = none) : Same H (upd H p o) := fun b x e => by
  rw [upd_ne (ne_of_none e h)]
  exact e
def Xt (b : Addr) (H H' : Hp) : Prop := ∀ c o, c ≠ b → H c = some o → H' c = some o
theorem Xt.refl (b : Addr) (H : Hp) : Xt b H H := fun _ _ _ h => h
theorem Xt.trans {b : Addr} {H H1 H2 : Hp} (x : Xt b H H1) (y : Xt b H1 H2) : Xt b H H2 := fun c o hc h => y c o hc (x c o hc h)
theorem Xt.new {b : Addr} {H H1 : Hp} {p : Addr} {o : HO} (x : Xt b H H1) (h : H1 p = none) : Xt b H (upd H1 p o) := fun c u hc e => by
  have q := x c u hc e
  rw [upd_ne (ne_of_none q h)]
  exact q
theorem Kp.xt {b : Addr} {H H' : Hp} (x : Kp b H H') : Xt b H H' := fun c o hc h => by
  rw [x c hc]
  exact h
theorem Same.xt {b : Addr} {H H' : Hp} (x : Same H H') : Xt b H H' := fun c o _ h => x c o h
theorem Bx.some {H : Hp} {b q : Addr} (x : Bx H b q) : ∃ o, H b = some o := by
  obtain ⟨ns, i, r, k, hb, _⟩ := x
  exact ⟨_, hb⟩
theorem Bx.new {H : Hp} {b q p : Addr} {o : HO} (x : Bx H b q) (h : H p = none) : Bx (upd H p o) b q := by
  obtain ⟨ns, i, r, k, hb, hq, z⟩ := x
  exact ⟨ns, i, r, k, by rw [upd_ne (ne_of_none hb h)]; exact hb, by rw [upd_ne (ne_of_none hq h)]; exact hq, z⟩
theorem Xt.free {b : Addr} {H H' : Hp} (x : Xt b H H') {p : Addr} (hb : p ≠ b) (h : H' p = none) : H p = none := by
  cases e : H p with
  | none => rfl
  | some o =>
    rw [x p o hb e] at h
    cases h
theorem Bx.ne {H : Hp} {b q p : Addr} (x : Bx H b q) (h : H p = none) : p ≠ b := fun e => by
  obtain ⟨o, ho⟩ := x.some
  rw [e, ho] at h
  cases h
theorem Bx.neq {H : Hp} {b q p : Addr} (x : Bx H b q) (h : H p = none) : p ≠ q := fun e => by
  obtain ⟨ns, i, r, k, hb, hq, _⟩ := x
  rw [e, hq] at h
  cases h
theorem Bx.upd {H : Hp} {b q p : Addr} {o : HO} (x : Bx H b q) (h1 : p ≠ b) (h2 : p ≠ q) : Bx (upd H p o) b q := by
  obtain ⟨ns, i, r, k, hb, hq, z⟩ := x
  exact ⟨ns, i, r, k, by rw [upd_ne h1.symm]; exact hb, by rw [upd_ne h2.symm]; exact hq, z⟩
theorem sum_ones : ∀ ys : List Str, (∀ y ∈ ys, y.length = 1) → (ys.map (·.length)).sum = ys.length
  | [], _ => rfl
  | y :: r, h => by
    rw [List.map_cons, List.sum_cons, sum_ones r fun z hz => h z (List.mem_cons_of_mem _ hz), h y List.mem_cons_self, List.length_cons]
    omega
/-- a list other than the box stays one -/
theorem Xt.sql {K : PySem.W.Frag} {b : Addr} {H H' : Hp} (x : Xt b H H') {p : Addr} (hb : p ≠ b) {xs : List V} (h : SqL K H p xs) : SqL K H' p xs := by
  rcases h with (h | ⟨o, h⟩) | h
  · exact .inl (.inl (x _ _ hb h))
  · exact .inl (.inr ⟨o, x _ _ hb h⟩)
  · exact .inr h
theorem cut63 {xs : List V} (h : xs.length ≤ 63) : cutV xs none (some 63) = xs := by
  unfold cutV
  rw [HT.sIx_none, show HT.sIx xs.length xs.length (some 63) = min 63 xs.length from HT.sIx_nat xs.length xs.length 63, List.drop_zero, Nat.sub_zero, show min 63 xs.length = xs.length by omega, List.take_length]
section
variable {P : Program} {w : World} {K : PySem.W.Frag} {mg : Str → Option Value} {base : Heap}
/-! ### the box made -/
def spBox (K : PySem.W.Frag) : Sp := fun vs H Q _ => ∃ (a : Addr) (ns : List Int), vs = [.ref a] ∧ SqL K H a (ns.map V.int) ∧ ns.length ≤ 63 ∧ ∀ p q H', H p = none → Bx H' p q → Same H H' → Q (.ref p) H'
theorem scB : FnScope ["_law_script", "_law_knot", "_law_cell"] ["_law_script"] (defScope sBox) := ⟨rfl, rfl, rfl, by decide +kernel, rfl, by decide +kernel, by decide +kernel⟩
theorem ok_box {f : Addr} {fd : FuncData} (F : Fun K "_law_box" "_law_box" sBox f fd) (ml : mg "len" = none) (mli : mg "list" = none) : FnOk P w K mg base CX0 1 f fd ["_law_script"] (spBox K) := by
  refine F.ok scB (fun vs H Q E h => ?_) (fun cdv A outer s H vs Q E hr h => ?_)
  · obtain ⟨a, ns, rfl, _⟩ := h
    rfl
  · obtain ⟨a, ns, rfl, hS, hlen, K1⟩ := h
    refine ⟨_, pss_cons (ps_set (i := 1) scB.nd rfl (.inl rfl) (pe_op op_add pe_int (pe_op op_mul pe_int (pe_callB call_len_seq (by rfl) ml PySem.boot_len (pa_cons (pe_slice sl_list (pv 0) po_none (po_some pe_int)) pa_nil)))))
      (pss_cons (ps_for PassesOwn.never rfl (pi_list (pe_slice sl_list (pv 0) po_none (po_some pe_int))) (pg_name (i := 2) scB.nd rfl (.inl rfl))
        (pss_one (ps_set (i := 1) scB.nd rfl (.inl rfl) (pe_op op_mod (pe_op op_add (pe_op op_add (pe_op op_mul (pv 1) pe_int) (pe_op op_mod (pv 2) pe_int)) pe_int) pe_int))))
      (pss_one (ps_ret (pe_lst (pa_cons (pe_callTy call_list_of (by rfl) mli boot_list (pa_cons (pe_slice sl_list (pv 0) po_none (po_some pe_int)) pa_nil)) (pa_cons pe_int (pa_cons pe_int (pa_cons (pv 1) pa_nil)))))))), ?_⟩
    have hL : (ns.map V.int).length ≤ 63 := by
      rw [List.length_map]
      exact hlen
    -- the first slice, its length
    refine ⟨_, rfl, 63, rfl, a, _, rfl, hS, fun p1 n1 => ?_⟩
    have s1 : Same H (upd H p1 (.lst (cutV (ns.map V.int) none (some 63)))) := same_upd n1
    refine ⟨p1, _, rfl, .inl (SqL.of upd_same), 61, _, rfl, rfl, .inl ⟨by decide, by decide⟩, 9147, _, rfl, rfl, ?_⟩
    generalize hH1 : upd H p1 (.lst (cutV (ns.map V.int) none (some 63))) = H1 at s1 ⊢
    -- the second slice, the loop
    refine ⟨_, rfl, 63, rfl, a, _, rfl, s1.seq hS, fun p2 n2 => ?_⟩
    have s2 : Same H1 (upd H1 p2 (.lst (cutV (ns.map V.int) none (some 63)))) := same_upd n2
    rw [cut63 hL] at s2 ⊢
    have e2 : (upd H1 p2 (.lst (ns.map V.int))) p2 = some (.lst (ns.map V.int)) := upd_same
    generalize upd H1 p2 (.lst (ns.map V.int)) = H2 at s2 e2 ⊢
    refine ⟨p2, rfl, ⟨_, SqL.of e2⟩, for_list (xs := ns.map V.int) (fun i σ H' => ∃ k y, σ = [some (.ref a), some (.int k), y] ∧ H' = H2 ∧ 0 ≤ k ∧ k < 2147483563) ?_ ?_ ?_ ?_⟩
    · refine ⟨_, _, rfl, rfl, ?_, ?_⟩
      · omega
      · omega
    · rintro i σ H' _ ⟨k, y, _, rfl, _⟩
      exact SqL.of e2
    · rintro i x σ H' hx ⟨k, y, rfl, rfl, hk0, hk1⟩
      obtain ⟨z, rfl⟩ : ∃ z, x = V.int z := by
        rw [List.getElem?_map] at hx
        cases e : ns[i]? with
        | none =>
          rw [e] at hx
          cases hx
        | some z =>
          rw [e] at hx
          exact ⟨z, (Option.some.inj hx).symm⟩
      refine ⟨_, rfl, k, 40014, rfl, rfl, .inr ⟨by decide, by decide⟩, _, rfl, z, 2147483563, rfl, rfl, (by show (0 : Int) < 2147483563; decide), _, _, rfl, rfl, _, 7, rfl, rfl, _, 2147483563, rfl, rfl, (by show (0 : Int) < 2147483563; decide), ?_⟩
      exact ⟨_, _, rfl, rfl, Int.emod_nonneg _ (by decide), Int.emod_lt_of_pos _ (by decide)⟩
    · rintro σ H' ⟨k, y, rfl, rfl, hk0, hk1⟩
      -- the end
      refine ⟨_, rfl, 63, rfl, a, _, rfl, s2.seq (s1.seq hS), fun p3 n3 => ?_⟩
      have s3 : Same H' (upd H' p3 (.lst (cutV (ns.map V.int) none (some 63)))) := same_upd n3
      rw [cut63 hL] at s3 ⊢
      have e3 : (upd H' p3 (.lst (ns.map V.int))) p3 = some (.lst (ns.map V.int)) := upd_same
      generalize upd H' p3 (.lst (ns.map V.int)) = H3 at s3 e3 ⊢
      refine ⟨p3, _, rfl, .inl (SqL.of e3), fun p4 n4 => ?_⟩
      have s4 : Same H3 (upd H3 p4 (.lst (ns.map V.int))) := same_upd n4
      have e4 : (upd H3 p4 (.lst (ns.map V.int))) p4 = some (.lst (ns.map V.int)) := upd_same
      generalize upd H3 p4 (.lst (ns.map V.int)) = H4 at s4 e4 ⊢
      refine ⟨_, rfl, by show 4 ≤ sizeLine; decide, fun p5 n5 => ?_⟩
      have s5 := ((s1.trans s2).trans s3).trans s4
      exact K1 p5 p4 _ (s5.free n5) ⟨ns, 0, 0, k, upd_same, by rw [upd_ne (ne_of_none e4 n5)]; exact e4, by decide, by decide, hk0, hk1⟩ (s5.trans (same_upd n5))
/-! ### one of some -/
def spOne (K : PySem.W.Frag) : Sp := fun vs H Q _ =>
  (∃ (b q p : Addr) (xs : List V), vs = [.ref b, .ref p] ∧ Bx H b q ∧ SqL K H p xs ∧ p ≠ b ∧ xs ≠ [] ∧ xs.length ≤ 1000 ∧ ∀ v H', v ∈ xs → Bx H' b q → Kp b H H' → Q v H') ∨
  (∃ (b q : Addr) (z : Str), vs = [.ref b, .str z] ∧ Bx H b q ∧ 0 < z.length ∧ z.length ≤ 1000 ∧ ∀ c H', c ∈ z.cps.toList → Bx H' b q → Kp b H H' → Q (.str ⟨#[c]⟩) H')
theorem scO : FnScope ["_law_box_here", "_law_some"] ["_law_box_here", "_law_some"] (defScope sOne) := ⟨rfl, rfl, rfl, by decide +kernel, rfl, by decide +kernel, by decide +kernel⟩
/-- what callers hold of a def -/
structure Df (P : Program) (w : World) (K : PySem.W.Frag) (mg : Str → Option Value) (base : Heap) (k : Nat) (x : Str) (ps : List Str) (sp : Sp) (f : Addr) (fd : FuncData) : Prop where
  ok : FnOk P w K mg base CX0 k f fd ps sp
  gl : mg x = some (.ref f)
  kp : PySem.W.keepIn K (.ref f) = true
  bd : Binds K fd ps []
theorem ok_one {f fT : Addr} {fd fdT : FuncData} (F : Fun K "_law_one" "_law_one" sOne f fd) (ml : mg "len" = none) (T : Df P w K mg base 1 "_law_take" ["_law_box_here", "_law_many"] spTake fT fdT) : FnOk P w K mg base CX0 2 f fd ["_law_box_here", "_law_some"] (spOne K) := by
  refine F.ok scO (fun vs H Q E h => ?_) (fun cdv A outer s H vs Q E hr h => ?_)
  · rcases h with ⟨b, q, p, xs, rfl, _⟩ | ⟨b, q, z, rfl, _⟩ <;> rfl
  · rcases h with ⟨b, q, p, xs, rfl, B, hS, hp, h0, hl, K1⟩ | ⟨b, q, z, rfl, B, h0, hl, K1⟩
    · refine ⟨_, pss_one (ps_ret (pe_ix ix_list (pv 1) (pe_call T.ok hr (by rfl) T.gl T.kp T.bd .nil pass0 (pa_cons (pv 0) (pa_cons (pe_callB call_len_seq (by rfl) ml PySem.boot_len (pa_cons (pv 1) pa_nil)) pa_nil))) (fun _ _ => rfl))), ?_⟩
      have h1 : 0 < xs.length := List.length_pos_iff.mpr h0
      refine ⟨_, rfl, _, rfl, _, rfl, p, _, rfl, .inl hS, b, q, (xs.length : Int), rfl, B, by omega, by omega, fun v H' v0 v1 B' kp => ?_⟩
      have hj : v.toNat < xs.length := by omega
      refine ⟨p, xs, v, xs[v.toNat], rfl, rfl, kp.xt.sql hp hS, at_of (j := v.toNat) (by omega) (List.getElem?_eq_getElem hj), ?_⟩
      exact K1 _ _ (List.getElem_mem hj) B' kp
    · refine ⟨_, pss_one (ps_ret (pe_ix ix_str (pv 1) (pe_call T.ok hr (by rfl) T.gl T.kp T.bd .nil pass0 (pa_cons (pv 0) (pa_cons (pe_callB call_len (by rfl) ml PySem.boot_len (pa_cons (pv 1) pa_nil)) pa_nil))) (fun _ _ => rfl))), ?_⟩
      have hz : z.length ≤ sizeLine := Nat.le_of_lt (small1000 hl)
      refine ⟨_, rfl, _, rfl, _, rfl, _, z.length, rfl, ⟨hz, rfl⟩, b, q, (z.length : Int), rfl, B, by omega, by omega, fun v H' v0 v1 B' kp => ?_⟩
      obtain ⟨j, rfl⟩ : ∃ j : Nat, v = (j : Int) := ⟨v.toNat, by omega⟩
      have hj : j < z.cps.toList.length := by
        rw [Array.length_toList]
        have : z.length = z.cps.size := rfl
        omega
      refine ⟨z, (j : Int), z.cps.toList[j], rfl, rfl, hz, atI_nat (List.getElem?_eq_getElem hj), ?_⟩
      exact K1 _ _ (List.getElem_mem hj) B' kp
/-! ### a colour -/
def spHue : Sp := fun vs H Q _ => ∃ b q, vs = [.ref b] ∧ Bx H b q ∧ ∀ (c : Str) H', c ∈ (["a", "b", "c"] : List Str) → Bx H' b q → Xt b H H' → Q (.str c) H'
theorem scH : FnScope ["_law_box_here"] ["_law_box_here"] (defScope sHue) := ⟨rfl, rfl, rfl, by decide +kernel, rfl, by decide +kernel, by decide +kernel⟩
theorem ok_hue {f fO : Addr} {fd fdO : FuncData} (F : Fun K "_law_hue" "_law_hue" sHue f fd) (O : Df P w K mg base 2 "_law_one" ["_law_box_here", "_law_some"] (spOne K) fO fdO) : FnOk P w K mg base CX0 3 f fd ["_law_box_here"] spHue := by
  refine F.ok scH (fun vs H Q E h => ?_) (fun cdv A outer s H vs Q E hr h => ?_)
  · obtain ⟨b, q, rfl, _⟩ := h
    rfl
  · obtain ⟨b, q, rfl, B, K1⟩ := h
    refine ⟨_, pss_one (ps_ret (pe_call O.ok hr (by rfl) O.gl O.kp O.bd .nil pass0 (pa_cons (pv 0) (pa_cons (pe_lst (pa_cons pe_str (pa_cons pe_str (pa_cons pe_str (pa_cons pe_str (pa_cons pe_str (pa_cons pe_str pa_nil))))))) pa_nil)))), ?_⟩
    refine ⟨_, rfl, by show 6 ≤ sizeLine; decide, fun p np => ?_⟩
    refine .inl ⟨b, q, p, _, rfl, B.new np, SqL.of upd_same, B.ne np, by simp, by show 6 ≤ 1000; decide, fun v H' hv B' kp => ?_⟩
    obtain ⟨c, rfl, hc⟩ : ∃ c : Str, v = .str c ∧ c ∈ (["a", "b", "c"] : List Str) := by
      simp only [List.mem_cons, List.not_mem_nil, or_false] at hv
      rcases hv with rfl | rfl | rfl | rfl | rfl | rfl
      all_goals exact ⟨_, rfl, by simp⟩
    exact K1 c H' hc B' (((Xt.refl b H).new np).trans kp.xt)
/-! ### an arrow -/
def spArrow : Sp := fun vs H Q _ => ∃ (b q : Addr) (m : Int), vs = [.ref b, .int m] ∧ Bx H b q ∧ 0 < m ∧ m < 2 ^ 100 ∧
  ∀ (p : Addr) (c : Str) (x y : Int) H', H p = none → p ≠ b → H' p = some (.tup [.str c, .int x, .int y]) → c ∈ (["a", "b", "c"] : List Str) → 0 ≤ x → x < m → 0 ≤ y → y < m → Bx H' b q → Xt b H H' → Q (.ref p) H'
theorem scA : FnScope ["_law_box_here", "_law_many"] ["_law_box_here", "_law_many"] (defScope sArrow) := ⟨rfl, rfl, rfl, by decide +kernel, rfl, by decide +kernel, by decide +kernel⟩
theorem ok_arrow {f fH fT : Addr} {fd fdH fdT : FuncData} (F : Fun K "_law_arrow" "_law_arrow" sArrow f fd) (G : Df P w K mg base 3 "_law_hue" ["_law_box_here"] spHue fH fdH) (T : Df P w K mg base 1 "_law_take" ["_law_box_here", "_law_many"] spTake fT fdT) : FnOk P w K mg base CX0 4 f fd ["_law_box_here", "_law_many"] spArrow := by
  refine F.ok scA (fun vs H Q E h => ?_) (fun cdv A outer s H vs Q E hr h => ?_)
  · obtain ⟨b, q, m, rfl, _⟩ := h
    rfl
  · obtain ⟨b, q, m, rfl, B, hm, hm2, K1⟩ := h
    refine ⟨_, pss_one (ps_ret (pe_tup (pa_cons (pe_call G.ok hr (by rfl) G.gl G.kp G.bd .nil pass0 (pa_cons (pv 0) pa_nil)) (pa_cons (pe_call T.ok (hr.mono (by decide)) (by rfl) T.gl T.kp T.bd .nil pass0 (pa_cons (pv 0) (pa_cons (pv 1) pa_nil))) (pa_cons (pe_call T.ok (hr.mono (by decide)) (by rfl) T.gl T.kp T.bd .nil pass0 (pa_cons (pv 0) (pa_cons (pv 1) pa_nil))) pa_nil))))), ?_⟩
    refine ⟨_, rfl, b, q, rfl, B, fun c H1 hc B1 x1 => ?_⟩
    refine ⟨_, rfl, _, rfl, b, q, m, rfl, B1, hm, hm2, fun x H2 a1 a2 B2 k2 => ?_⟩
    refine ⟨_, rfl, _, rfl, b, q, m, rfl, B2, hm, hm2, fun y H3 c1 c2 B3 k3 => ?_⟩
    refine ⟨by show 3 ≤ sizeLine; decide, fun p np => ?_⟩
    have xt := (x1.trans k2.xt).trans k3.xt
    exact K1 p c x y _ (xt.free (B3.ne np) np) (B3.ne np) upd_same hc a1 a2 c1 c2 (B3.new np) (xt.new np)
end
end Wb
namespace Wb
open PySem PySem.Spec PyProof.Rows L2 RZ
abbrev sSame : Stmt := topS 23
def scV : V → Bool
  | .non => true
  | .bl _ => true
  | .int _ => true
  | .str _ => true
  | _ => false
/-- both are the same data, at most n deep -/
def Sv (K : PySem.W.Frag) (H : Hp) : Nat → V → V → Prop
  | 0, x, y => scV x = true ∧ x = y
  | n + 1, x, y => (scV x = true ∧ x = y) ∨ ∃ (p q : Addr) (xs ys : List V), x = .ref p ∧ y = .ref q ∧ ((SqL K H p xs ∧ SqL K H q ys) ∨ (SqT K H p xs ∧ SqT K H q ys)) ∧ xs.length ≤ 100000 ∧ Paired (Sv K H n) xs ys
theorem Sv.same {K : PySem.W.Frag} {H H' : Hp} (s : Same H H') : ∀ (n : Nat) (x y : V), Sv K H n x y → Sv K H' n x y
  | 0, _, _, h => h
  | n + 1, x, y, h => by
    rcases h with h | ⟨p, q, xs, ys, e1, e2, h, hl, r⟩
    · exact .inl h
    · refine .inr ⟨p, q, xs, ys, e1, e2, ?_, hl, Paired.mapP r fun a b => Sv.same s n a b⟩
      rcases h with ⟨h1, h2⟩ | ⟨h1, h2⟩
      · exact .inl ⟨s.seq h1, s.seq h2⟩
      · refine .inr ⟨?_, ?_⟩
        · rcases h1 with (h | ⟨o, h⟩) | h
          · exact .inl (.inl (s _ _ h))
          · exact .inl (.inr ⟨o, s _ _ h⟩)
          · exact .inr h
        · rcases h2 with (h | ⟨o, h⟩) | h
          · exact .inl (.inl (s _ _ h))
          · exact .inl (.inr ⟨o, s _ _ h⟩)
          · exact .inr h
theorem same_tup {K : PySem.W.Frag} {H H' : Hp} {a : Addr} {xs : List V} (e : Same H H') (h : SqT K H a xs) : SqT K H' a xs := by
  rcases h with (h | ⟨o, h⟩) | h
  · exact .inl (.inl (e _ _ h))
  · exact .inl (.inr ⟨o, e _ _ h⟩)
  · exact .inr h
theorem ty_list {K : PySem.W.Frag} {H : Hp} {p : Addr} {xs : List V} (h : SqL K H p xs) : TyX K H (.ref p) (.type "list") := by
  rcases h with (h | ⟨o, h⟩) | ⟨o, its, n, h, hc, _⟩
  · exact .base (.lst h)
  · exact .base (.frz h)
  · exact .kList h hc
theorem ty_tup {K : PySem.W.Frag} {H : Hp} {p : Addr} {xs : List V} (h : SqT K H p xs) : TyX K H (.ref p) (.type "tuple") := by
  rcases h with (h | ⟨o, h⟩) | ⟨o, its, n, h, hc, _⟩
  · exact .base (.tup h)
  · exact .fTuple h
  · exact .kTuple h hc
theorem walk_zipT {K : PySem.W.Frag} {a b : Addr} {xs ys : List V} {n : Nat} (hn : n = min xs.length ys.length) : Walk (ItzT K a b) n (fun H => SqT K H a xs ∧ SqT K H b ys) (YPair (fun i => xs[i]?) (fun i => ys[i]?)) where
  goes := fun i H hi g => ⟨xs, ys, xs[i]'(by omega), ys[i]'(by omega), g.1, g.2, List.getElem?_eq_getElem _, List.getElem?_eq_getElem _⟩
  stops := fun H g => ⟨xs, ys, g.1, g.2, by omega⟩
  yields := fun i H v H' hi g y => by
    obtain ⟨T, x, z, e, nT, eH, h1, h2⟩ := y
    exact ⟨T, x, z, e, nT, eH, h1 _ g.1, h2 _ g.2⟩
theorem paired_at {α β : Type} {F : α → β → Prop} : ∀ {l : List α} {m : List β}, Paired F l m → ∀ (i : Nat) (x : α) (y : β), l[i]? = some x → m[i]? = some y → F x y
  | _, _, .nil, i, _, _, h, _ => by simp at h
  | _, _, .cons r _, 0, x, y, h1, h2 => by
    cases h1
    cases h2
    exact r
  | _, _, .cons _ t, i + 1, x, y, h1, h2 => paired_at t i x y h1 h2
section
variable {P : Program} {w : World} {K : PySem.W.Frag} {mg : Str → Option Value} {base : Heap}
def spSame (K : PySem.W.Frag) (n : Nat) : Sp := fun vs H Q _ => ∃ x y, vs = [x, y] ∧ Sv K H n x y ∧ ∀ H', Same H H' → Q (.bl true) H'
theorem scS : FnScope ["_law_found", "_law_due", "_law_one_here", "_law_other"] ["_law_found", "_law_due"] (defScope sSame) := ⟨rfl, rfl, rfl, by decide +kernel, rfl, by decide +kernel, by decide +kernel⟩
structure SmT (mg : Str → Option Value) : Prop where
  isi : mg "isinstance" = none
  lst : mg "list" = none
  tup : mg "tuple" = none
  bool : mg "bool" = none
  int : mg "int" = none
  str : mg "str" = none
  len : mg "len" = none
  all : mg "all" = none
  zip : mg "zip" = none
/-- a plain value against itself -/
theorem same_plain {n k : Nat} {f : Addr} {fd : FuncData} {cdv : Value} {A : Around} {outer : List Env} {s : Shared} {H : Hp} {Q : VK} {E : XK} (M : SmT mg) {v : V} {t : String} {b1 b2 b3 : Bool} (nn : v ≠ .non) (ty : TyX K H v (.type t)) (sc : scal v v = true)
    (k1 : kitB t "list" = some false) (k2 : kitB t "tuple" = some false) (k3 : kitB t "bool" = some b1) (k4 : kitB t "int" = some b2) (k5 : kitB t "str" = some b3) (q : Q (.bl true) H) :
    ∃ tt, PSs (cxOf CX0 P w K mg base ["_law_found", "_law_due", "_law_one_here", "_law_other"] "_law_same" (defScope sSame) f cdv A outer s H E).nox (defBody sSame) tt ∧ tt { nx := fun _ H' => Q .non H', rt := Q } (start ["_law_found", "_law_due", "_law_one_here", "_law_other"] [v, v]) H := by
  refine ⟨_, pss_cons (ps_if (pt_cmpR op_isN (pv 1) pe_non (nomark _)) (pss_one ps_never) pss_nil)
    (pss_cons (ps_if (PW.pt (pw_or (pt_val (pe_callB call_isi (by rfl) M.isi boot_isinstance (pa_cons (pv 1) (pa_cons (pe_bltn (v := .ty "list") (by rfl) M.lst (by decide +kernel) rfl) pa_nil)))) (pw_or1 (pt_val (pe_callB call_isi (by rfl) M.isi boot_isinstance (pa_cons (pv 1) (pa_cons (pe_bltn (v := .ty "tuple") (by rfl) M.tup (by decide +kernel) rfl) pa_nil))))))) (pss_cons ps_never (pss_one ps_never)) pss_nil)
    (pss_cons (ps_if (PW.pt (pw_or (pt_cmpR op_ne (pe_callB call_isi (by rfl) M.isi boot_isinstance (pa_cons (pv 1) (pa_cons (pe_bltn (v := .ty "bool") (by rfl) M.bool (by decide +kernel) rfl) pa_nil))) (pe_callB call_isi (by rfl) M.isi boot_isinstance (pa_cons (pv 0) (pa_cons (pe_bltn (v := .ty "bool") (by rfl) M.bool (by decide +kernel) rfl) pa_nil))) (nomark _)) (pw_or1 (pt_cmpR op_ne (pe_callB call_isi (by rfl) M.isi boot_isinstance (pa_cons (pv 1) (pa_cons (pe_bltn (v := .ty "int") (by rfl) M.int (by decide +kernel) rfl) pa_nil))) (pe_callB call_isi (by rfl) M.isi boot_isinstance (pa_cons (pv 0) (pa_cons (pe_bltn (v := .ty "int") (by rfl) M.int (by decide +kernel) rfl) pa_nil))) (nomark _))))) (pss_one ps_never) pss_nil)
    (pss_one (ps_ret (pe_and (pe_cmpR op_eq (pe_callB call_isi (by rfl) M.isi boot_isinstance (pa_cons (pv 0) (pa_cons (pe_bltn (v := .ty "str") (by rfl) M.str (by decide +kernel) rfl) pa_nil))) (pe_callB call_isi (by rfl) M.isi boot_isinstance (pa_cons (pv 1) (pa_cons (pe_bltn (v := .ty "str") (by rfl) M.str (by decide +kernel) rfl) pa_nil))) (nomark _)) (pe_one (pe_cmpR op_eq (pv 0) (pv 1) (nomark _)))))))), ?_⟩
  refine ⟨_, rfl, rfl, _, rfl, ite2 (fun e => absurd (of_decide_eq_true e) nn) fun _ => ?_⟩
  refine ⟨_, rfl, v, _, _, _, _, rfl, .ty "list", ty, kit_ty k1, _, rfl, iteF ?_⟩
  refine ⟨_, rfl, v, _, _, _, _, rfl, .ty "tuple", ty, kit_ty k2, _, rfl, iteF ?_⟩
  refine ⟨_, rfl, v, _, _, _, _, rfl, .ty "bool", ty, kit_ty k3, _, rfl, v, _, _, _, _, rfl, .ty "bool", ty, kit_ty k3, rfl, _, rfl, ?_⟩
  refine iteNS rfl ?_
  refine ⟨_, rfl, v, _, _, _, _, rfl, .ty "int", ty, kit_ty k4, _, rfl, v, _, _, _, _, rfl, .ty "int", ty, kit_ty k4, rfl, _, rfl, ?_⟩
  refine iteNS rfl ?_
  refine ⟨_, rfl, v, _, _, _, _, rfl, .ty "str", ty, kit_ty k5, _, rfl, v, _, _, _, _, rfl, .ty "str", ty, kit_ty k5, rfl, true, ?_, ?_⟩
  · rw [decide_eq_true rfl]
  · refine iteT ⟨_, rfl, _, rfl, sc, ?_⟩
    rw [decide_eq_true rfl]
    exact q
/-- a plain value against itself, any -/
theorem same_any {f : Addr} {fd : FuncData} {cdv : Value} {A : Around} {outer : List Env} {s : Shared} {H : Hp} {Q : VK} {E : XK} (M : SmT mg) {v : V} (hs : scV v = true) (q : Q (.bl true) H) :
    ∃ tt, PSs (cxOf CX0 P w K mg base ["_law_found", "_law_due", "_law_one_here", "_law_other"] "_law_same" (defScope sSame) f cdv A outer s H E).nox (defBody sSame) tt ∧ tt { nx := fun _ H' => Q .non H', rt := Q } (start ["_law_found", "_law_due", "_law_one_here", "_law_other"] [v, v]) H := by
  cases v with
  | non =>
    refine ⟨_, pss_cons (ps_if (pt_cmpR op_isN (pv 1) pe_non (nomark _)) (pss_one (ps_ret (pe_cmpR op_isN (pv 0) pe_non (nomark _)))) pss_nil) (pss_cons ps_never (pss_cons ps_never (pss_one ps_never))), ?_⟩
    exact ⟨_, rfl, rfl, _, rfl, iteT ⟨_, rfl, rfl, q⟩⟩
  | bl b => exact same_plain (n := 0) (k := 0) (fd := fd) (b1 := true) (b2 := true) (b3 := false) M (fun z => nomatch z) (.base (.bl b)) rfl (by decide +kernel) (by decide +kernel) (by decide +kernel) (by decide +kernel) (by decide +kernel) q
  | int i => exact same_plain (n := 0) (k := 0) (fd := fd) (b1 := false) (b2 := true) (b3 := false) M (fun z => nomatch z) (.base (.int i)) rfl (by decide +kernel) (by decide +kernel) (by decide +kernel) (by decide +kernel) (by decide +kernel) q
  | str z => exact same_plain (n := 0) (k := 0) (fd := fd) (b1 := false) (b2 := false) (b3 := true) M (fun z => nomatch z) (.base (.str z)) rfl (by decide +kernel) (by decide +kernel) (by decide +kernel) (by decide +kernel) (by decide +kernel) q
  | byt _ => cases hs
  | flt _ => cases hs
  | ref _ => cases hs
  | ty _ => cases hs
theorem ok_same {f : Addr} {fd : FuncData} (F : Fun K "_law_same" "_law_same" sSame f fd) (gl : mg "_law_same" = some (.ref f)) (bd : Binds K fd ["_law_found", "_law_due"] []) (M : SmT mg) : ∀ n, FnOk P w K mg base CX0 (n + 1) f fd ["_law_found", "_law_due"] (spSame K n) := by
  intro n
  induction n with
  | zero =>
    refine F.ok scS (fun vs H Q E h => ?_) (fun cdv A outer s H vs Q E hr h => ?_)
    · obtain ⟨x, y, rfl, _⟩ := h
      rfl
    · obtain ⟨x, y, rfl, ⟨hs, rfl⟩, q⟩ := h
      exact same_any (fd := fd) M hs (q _ (Same.refl _))
  | succ n ih =>
    refine F.ok scS (fun vs H Q E h => ?_) (fun cdv A outer s H vs Q E hr h => ?_)
    · obtain ⟨x, y, rfl, _⟩ := h
      rfl
    · obtain ⟨x, y, rfl, hs, q⟩ := h
      rcases hs with ⟨hs, rfl⟩ | ⟨p1, p2, xs, ys, rfl, rfl, hS, hl, pr⟩
      · exact same_any (fd := fd) M hs (q _ (Same.refl _))
      · -- two lists, or two tuples
        have hlen : xs.length = ys.length := Paired.length pr
        refine ⟨_, pss_cons (ps_if (pt_cmpR op_isN (pv 1) pe_non (nomark _)) (pss_one ps_never) pss_nil)
          (pss_cons (ps_if (PW.pt (pw_or (pt_val (pe_callB call_isi (by rfl) M.isi boot_isinstance (pa_cons (pv 1) (pa_cons (pe_bltn (v := .ty "list") (by rfl) M.lst (by decide +kernel) rfl) pa_nil)))) (pw_or1 (pt_val (pe_callB call_isi (by rfl) M.isi boot_isinstance (pa_cons (pv 1) (pa_cons (pe_bltn (v := .ty "tuple") (by rfl) M.tup (by decide +kernel) rfl) pa_nil)))))))
            (pss_cons (ps_if (PW.pt (pw_or (pt_cmpR op_ne (pe_callB call_isi (by rfl) M.isi boot_isinstance (pa_cons (pv 0) (pa_cons (pe_bltn (v := .ty "list") (by rfl) M.lst (by decide +kernel) rfl) pa_nil))) (pe_callB call_isi (by rfl) M.isi boot_isinstance (pa_cons (pv 1) (pa_cons (pe_bltn (v := .ty "list") (by rfl) M.lst (by decide +kernel) rfl) pa_nil))) (nomark _)) (pw_or1 (pt_cmpR op_ne (pe_callB call_isi (by rfl) M.isi boot_isinstance (pa_cons (pv 0) (pa_cons (pe_bltn (v := .ty "tuple") (by rfl) M.tup (by decide +kernel) rfl) pa_nil))) (pe_callB call_isi (by rfl) M.isi boot_isinstance (pa_cons (pv 1) (pa_cons (pe_bltn (v := .ty "tuple") (by rfl) M.tup (by decide +kernel) rfl) pa_nil))) (nomark _))))) (pss_one ps_never) pss_nil)
            (pss_one (ps_ret (pe_and (pe_cmpR op_eq (pe_callB call_len_seq (by rfl) M.len PySem.boot_len (pa_cons (pv 0) pa_nil)) (pe_callB call_len_seq (by rfl) M.len PySem.boot_len (pa_cons (pv 1) pa_nil)) (nomark _))
              (pe_one (pe_callB (cr_all rfl) (by rfl) M.all (by decide +kernel) (pa_cons
                (pe_lc (own := [("_law_one_here", 2), ("_law_other", 3)]) (g := gTup K 2 (gCons (gName 2) (gCons (gName 3) gNil))) (tt := tYes) rfl scS.nd (pi_zipA (by rfl) M.zip (pa_cons (pv 0) (pa_cons (pv 1) pa_nil)))
                  (blkOk_by (N := ["_law_found", "_law_due", "_law_one_here", "_law_other"]) (sc := defScope sSame) (by decide +kernel))
                  (fun _ _ _ _ _ => pg_tup rfl (pgs_cons (pg_name (i := 2) scS.nd rfl (.inl rfl)) (pgs_cons (pg_name (i := 3) scS.nd rfl (.inl rfl)) pgs_nil))) (fun _ _ _ _ _ => pts_nil)
                  (fun _ _ _ _ _ => pe_call ih hr (by rfl) gl F.kp bd .nil pass0 (pa_cons (pv 2) (pa_cons (pv 3) pa_nil)))) pa_nil)))))))
            pss_nil)
          (pss_cons ps_never (pss_one ps_never))), ?_⟩
        refine ⟨_, rfl, rfl, _, rfl, ite2 (fun e => (nomatch (of_decide_eq_true e))) fun _ => ?_⟩
        have fin : ∀ H' D, Same H H' → H' D = some (.lst ((List.replicate xs.length true).map V.bl)) → Q (.bl true) H' := fun H' D s' _ => q H' s'
        rcases hS with ⟨h1, h2⟩ | ⟨h1, h2⟩
        · refine ⟨_, rfl, _, _, _, _, _, rfl, .ty "list", ty_list h2, kit_ty (r := true) (by decide +kernel), _, rfl, iteT ?_⟩
          refine iteT ?_
          refine ⟨_, rfl, _, _, _, _, _, rfl, .ty "list", ty_list h1, kit_ty (r := true) (by decide +kernel), _, rfl, _, _, _, _, _, rfl, .ty "list", ty_list h2, kit_ty (r := true) (by decide +kernel), rfl, _, rfl, iteNS rfl ?_⟩
          refine ⟨_, rfl, _, _, _, _, _, rfl, .ty "tuple", ty_list h1, kit_ty (r := false) (by decide +kernel), _, rfl, _, _, _, _, _, rfl, .ty "tuple", ty_list h2, kit_ty (r := false) (by decide +kernel), rfl, _, rfl, iteNS rfl ?_⟩
          refine ⟨_, rfl, p1, xs, rfl, .inl h1, _, rfl, p2, ys, rfl, .inl h2, rfl, true, by rw [hlen, decide_eq_true rfl], iteT ?_⟩
          refine ⟨_, rfl, _, rfl, p1, p2, xs, ys, rfl, .inl ⟨h1, h2, fun D nD => ?_⟩⟩
          refine lc_it (walk_zip (K := K) (a := p1) (b := p2) (xs := xs) (ys := ys) (n := xs.length) (by omega)) (fun i H' => H' D = some (.lst ((List.replicate i true).map V.bl)) ∧ Same H H' ∧ i ≤ xs.length) ⟨upd_same, same_upd nD, Nat.zero_le _⟩ (fun i H' _ hp => ⟨hp.2.1.seq h1, hp.2.1.seq h2⟩) ?_ ?_
          · rintro i v H1 H2 hi ⟨hD, sm, _⟩ ⟨T, x, y, rfl, nT, rfl, gx, gy⟩
            have sT : Same H1 (upd H1 T (.tup [x, y])) := same_upd nT
            refine ⟨T, [x, y], rfl, SqT.of upd_same, rfl, x, [y], rfl, y, [], rfl, rfl, rfl, ?_⟩
            dsimp only [tYes]
            refine iteT ⟨_, rfl, _, rfl, x, y, rfl, Sv.same (sm.trans sT) n x y (paired_at pr i x y gx gy), fun H3 s3 => ?_⟩
            refine ⟨_, s3 _ _ (sT _ _ hD), by rw [List.length_map, List.length_replicate]; exact Nat.lt_of_lt_of_le hi (Nat.le_trans hl (by decide)), ?_, ?_, hi⟩
            · rw [upd_same, List.replicate_succ', List.map_append]
              rfl
            · intro c o e
              rw [upd_ne (ne_of_none e nD)]
              exact s3 _ _ (sT _ _ (sm _ _ e))
          · rintro H' ⟨hD, sm, _⟩
            refine ⟨D, List.replicate xs.length true, rfl, SqL.of hD, ?_⟩
            rw [show (List.replicate xs.length true).all id = true by simp]
            exact q H' sm
        · refine ⟨_, rfl, _, _, _, _, _, rfl, .ty "list", ty_tup h2, kit_ty (r := false) (by decide +kernel), _, rfl, iteF ?_⟩
          refine ⟨_, rfl, _, _, _, _, _, rfl, .ty "tuple", ty_tup h2, kit_ty (r := true) (by decide +kernel), _, rfl, iteT ?_⟩
          refine ⟨_, rfl, _, _, _, _, _, rfl, .ty "list", ty_tup h1, kit_ty (r := false) (by decide +kernel), _, rfl, _, _, _, _, _, rfl, .ty "list", ty_tup h2, kit_ty (r := false) (by decide +kernel), rfl, _, rfl, iteNS rfl ?_⟩
          refine ⟨_, rfl, _, _, _, _, _, rfl, .ty "tuple", ty_tup h1, kit_ty (r := true) (by decide +kernel), _, rfl, _, _, _, _, _, rfl, .ty "tuple", ty_tup h2, kit_ty (r := true) (by decide +kernel), rfl, _, rfl, iteNS rfl ?_⟩
          refine ⟨_, rfl, p1, xs, rfl, .inr h1, _, rfl, p2, ys, rfl, .inr h2, rfl, true, by rw [hlen, decide_eq_true rfl], iteT ?_⟩
          refine ⟨_, rfl, _, rfl, p1, p2, xs, ys, rfl, .inr ⟨h1, h2, fun D nD => ?_⟩⟩
          refine lc_it (walk_zipT (K := K) (a := p1) (b := p2) (xs := xs) (ys := ys) (n := xs.length) (by omega)) (fun i H' => H' D = some (.lst ((List.replicate i true).map V.bl)) ∧ Same H H' ∧ i ≤ xs.length) ⟨upd_same, same_upd nD, Nat.zero_le _⟩ (fun i H' _ hp => ⟨same_tup hp.2.1 h1, same_tup hp.2.1 h2⟩) ?_ ?_
          · rintro i v H1 H2 hi ⟨hD, sm, _⟩ ⟨T, x, y, rfl, nT, rfl, gx, gy⟩
            have sT : Same H1 (upd H1 T (.tup [x, y])) := same_upd nT
            refine ⟨T, [x, y], rfl, SqT.of upd_same, rfl, x, [y], rfl, y, [], rfl, rfl, rfl, ?_⟩
            dsimp only [tYes]
            refine iteT ⟨_, rfl, _, rfl, x, y, rfl, Sv.same (sm.trans sT) n x y (paired_at pr i x y gx gy), fun H3 s3 => ?_⟩
            refine ⟨_, s3 _ _ (sT _ _ hD), by rw [List.length_map, List.length_replicate]; exact Nat.lt_of_lt_of_le hi (Nat.le_trans hl (by decide)), ?_, ?_, hi⟩
            · rw [upd_same, List.replicate_succ', List.map_append]
              rfl
            · intro c o e
              rw [upd_ne (ne_of_none e nD)]
              exact s3 _ _ (sT _ _ (sm _ _ e))
          · rintro H' ⟨hD, sm, _⟩
            refine ⟨D, List.replicate xs.length true, rfl, SqL.of hD, ?_⟩
            rw [show (List.replicate xs.length true).all id = true by simp]
            exact q H' sm
end
end Wb
namespace Wb
open PySem PySem.Spec PyProof.Rows L2 RZ Sg
abbrev sInit : Stmt := inClass (topS 15) 0
abbrev sPoints : Stmt := inClass (topS 15) 1
abbrev sArrows : Stmt := inClass (topS 15) 2
abbrev sMarks : Stmt := inClass (topS 15) 3
abbrev sRA : Stmt := topS 16
abbrev sRM : Stmt := topS 17
abbrev sGat : Stmt := topS 18
theorem seq_set {te : TE} {i : Nat} {rest : TS} {D : Ends} {σ : L2.St} {H : Hp} (h : te σ H fun v H' => rest D (σ.set i (some v)) H') : tSeq (tAsg te (gName i)) rest D σ H := h
theorem ret_of {te : TE} {D : Ends} {σ : L2.St} {H : Hp} (h : te σ H D.rt) : tRet te D σ H := h
/-! ### ties -/
def AK (n : Int) (k : List Key) : Prop := ∃ (c : Nat) (x y : Int), k = [.inr ⟨#[c]⟩, .inl x, .inl y] ∧ (c = 97 ∨ c = 98 ∨ c = 99) ∧ 0 ≤ x ∧ x < n ∧ 0 ≤ y ∧ y < n
def MK (n : Int) (k : List Key) : Prop := ∃ (c : Nat) (x : Int), k = [.inr ⟨#[c]⟩, .inl x] ∧ (c = 112 ∨ c = 113 ∨ c = 114) ∧ 0 ≤ x ∧ x < n
theorem AK.tie {n : Int} {k : List Key} (h : AK n k) (hn : n ≤ 128) : TieK 128 3 k := by
  obtain ⟨c, x, y, rfl, hc, h1, h2, h3, h4⟩ := h
  refine ⟨c, [x, y], rfl, rfl, fun m hm => ?_⟩
  simp only [List.mem_cons, List.not_mem_nil, or_false] at hm
  rcases hm with rfl | rfl | rfl <;> omega
theorem MK.tie {n : Int} {k : List Key} (h : MK n k) (hn : n ≤ 128) : TieK 128 2 k := by
  obtain ⟨c, x, rfl, hc, h1, h2⟩ := h
  refine ⟨c, [x], rfl, rfl, fun m hm => ?_⟩
  simp only [List.mem_cons, List.not_mem_nil, or_false] at hm
  rcases hm with rfl | rfl <;> omega
/-- a list or tuple of ties stands at l -/
def TL (K : PySem.W.Frag) (H : Hp) (l : Addr) (ks : List TK) : Prop := (SqL K H l (refs ks) ∨ SqT K H l (refs ks)) ∧ ∀ p ∈ ks, SqT K H p.1 (p.2.map kV)
theorem TL.same {K : PySem.W.Frag} {H H' : Hp} {l : Addr} {ks : List TK} (s : Same H H') (h : TL K H l ks) : TL K H' l ks :=
  ⟨h.1.imp (fun z => s.seq z) fun z => same_tup s z, fun p hp => same_tup s (h.2 p hp)⟩
section
variable {P : Program} {w : World} {K : PySem.W.Frag} {mg : Str → Option Value} {base : Heap}
theorem in_abc {c : Nat} (h : c = 97 ∨ c = 98 ∨ c = 99) : inV (.str ⟨#[c]⟩) (signsV "abc") = true := by
  rcases h with rfl | rfl | rfl <;> decide +kernel
theorem in_pqr {c : Nat} (h : c = 112 ∨ c = 113 ∨ c = 114) : inV (.str ⟨#[c]⟩) (signsV "pqr") = true := by
  rcases h with rfl | rfl | rfl <;> decide +kernel
def spRA (K : PySem.W.Frag) : Sp := fun vs H Q _ => ∃ n l ks, vs = [.int n, .ref l] ∧ TL K H l ks ∧ (∀ p ∈ ks, AK n p.2) ∧ ∀ H', Same H H' → Q .non H'
theorem scRA : FnScope ["points", "arrows", "colours", "at", "colour", "start", "end"] ["points", "arrows"] (defScope sRA) := ⟨rfl, rfl, rfl, by decide +kernel, rfl, by decide +kernel, by decide +kernel⟩
set_option maxHeartbeats 2000000 in
theorem ok_ra {f : Addr} {fd : FuncData} {tk : Tok} (F : Fun K "refuse_bad_arrows" "refuse_bad_arrows" sRA f fd) (mli : mg "list" = none) (me : mg "enumerate" = none) (gC : mg "COLOURS" = some (.str "abc" tk)) : FnOk P w K mg base CX0 1 f fd ["points", "arrows"] (spRA K) := by
  refine F.ok scRA (fun vs H Q E h => ?_) (fun cdv A outer s H vs Q E hr h => ?_)
  · obtain ⟨n, l, ks, rfl, _⟩ := h
    rfl
  · obtain ⟨n, l, ks, rfl, hT, hA, KQ⟩ := h
    refine ⟨_, pss_cons (ps_set (i := 2) scRA.nd rfl (.inl rfl) (pe_callTy (cr_listS rfl) (by rfl) mli boot_list (pa_cons (pe_glob (v := .str "abc") (by rfl) gC ⟨_, rfl⟩) pa_nil)))
      (pss_one (ps_for PassesOwn.never rfl (pi_enA (by rfl) me (pa_cons (pv 1) pa_nil)) (pg_tup rfl (pgs_cons (pg_name (i := 3) scRA.nd rfl (.inl rfl)) (pgs_cons (pg_tup rfl (pgs_cons (pg_name (i := 4) scRA.nd rfl (.inl rfl)) (pgs_cons (pg_name (i := 5) scRA.nd rfl (.inl rfl)) (pgs_cons (pg_name (i := 6) scRA.nd rfl (.inl rfl)) pgs_nil)))) pgs_nil)))
        (pss_one (ps_if (PW.pt (pw_or (pt_cmpR op_notIn_seq (pv 4) (pv 2) (by rfl)) (pw_or (pt_not (pt_chain op_le op_lt pe_int (pv 5) (pv 0))) (pw_or1 (pt_not (pt_chain op_le op_lt pe_int (pv 6) (pv 0))))))) (pss_one ps_never) pss_nil)))), ?_⟩
    refine seq_set ⟨_, rfl, by decide, fun p np => ?_⟩
    have s0 : Same H (upd H p (.lst (signsV "abc"))) := same_upd np
    have e0 : (upd H p (.lst (signsV "abc"))) p = some (.lst (signsV "abc")) := upd_same
    generalize upd H p (.lst (signsV "abc")) = H0 at s0 e0 ⊢
    rcases hT.1 with hS | hS
    · refine ⟨_, rfl, l, refs ks, rfl, .inl ⟨s0.seq hS, for_it (walk_enum (K := K) (a := l) (xs := refs ks)) (fun i σ J => ∃ y3 y4 y5 y6, σ = [some (.int n), some (.ref l), some (.ref p), y3, y4, y5, y6] ∧ Same H0 J) ⟨_, _, _, _, rfl, Same.refl _⟩ ?_ ?_ ?_⟩⟩
      · rintro i σ J _ ⟨y3, y4, y5, y6, rfl, sm⟩
        exact sm.seq (s0.seq hS)
      · rintro i v σ J J' hi ⟨y3, y4, y5, y6, rfl, sm⟩ ⟨T, a1, a2, rfl, nT, rfl, e1, e2⟩
        cases e1
        have hik : i < ks.length := by
          rw [List.length_map] at hi
          exact hi
        have gi : (refs ks)[i]? = some (.ref ks[i].1) := by
          rw [List.getElem?_map, List.getElem?_eq_getElem hik]
          rfl
        cases e2.symm.trans gi
        have sT : Same J (upd J T (.tup [.int (i : Nat), .ref ks[i].1])) := same_upd nT
        have hm : ks[i] ∈ ks := List.getElem_mem hik
        have sq := same_tup (sm.trans sT) (same_tup s0 (hT.2 _ hm))
        obtain ⟨c, x, y, ek, hc, h1, h2, h3, h4⟩ := hA _ hm
        rw [ek] at sq
        refine ⟨T, [.int (i : Nat), .ref ks[i].1], rfl, SqT.of upd_same, rfl, .int (i : Nat), [.ref ks[i].1], rfl, .ref ks[i].1, [], rfl, ⟨ks[i].1, [.str ⟨#[c]⟩, .int x, .int y], rfl, sq, rfl, .str ⟨#[c]⟩, [.int x, .int y], rfl, .int x, [.int y], rfl, .int y, [], rfl, rfl, rfl, ?_⟩⟩
        refine ⟨_, rfl, _, rfl, p, signsV "abc", rfl, .inl (SqL.of (sT _ _ (sm _ _ e0))), rfl, by decide +kernel, _, rfl, ?_⟩
        rw [in_abc hc]
        refine iteF ?_
        refine ⟨_, rfl, _, _, rfl, rfl, _, rfl, ?_⟩
        rw [decide_eq_true (show (0 : Int) ≤ x from h1)]
        refine iteT ⟨_, rfl, _, _, rfl, rfl, _, rfl, ?_⟩
        rw [decide_eq_true (show x < n from h2)]
        refine iteF ?_
        refine ⟨_, rfl, _, _, rfl, rfl, _, rfl, ?_⟩
        rw [decide_eq_true (show (0 : Int) ≤ y from h3)]
        refine iteT ⟨_, rfl, _, _, rfl, rfl, _, rfl, ?_⟩
        rw [decide_eq_true (show y < n from h4)]
        refine iteF ?_
        exact ⟨_, _, _, _, rfl, sm.trans sT⟩
      · rintro σ J ⟨y3, y4, y5, y6, rfl, sm⟩
        exact KQ J (s0.trans sm)
    · refine ⟨_, rfl, l, refs ks, rfl, .inr ⟨same_tup s0 hS, for_it (walk_enumT (K := K) (a := l) (xs := refs ks)) (fun i σ J => ∃ y3 y4 y5 y6, σ = [some (.int n), some (.ref l), some (.ref p), y3, y4, y5, y6] ∧ Same H0 J) ⟨_, _, _, _, rfl, Same.refl _⟩ ?_ ?_ ?_⟩⟩
      · rintro i σ J _ ⟨y3, y4, y5, y6, rfl, sm⟩
        exact same_tup sm (same_tup s0 hS)
      · rintro i v σ J J' hi ⟨y3, y4, y5, y6, rfl, sm⟩ ⟨T, a1, a2, rfl, nT, rfl, e1, e2⟩
        cases e1
        have hik : i < ks.length := by
          rw [List.length_map] at hi
          exact hi
        have gi : (refs ks)[i]? = some (.ref ks[i].1) := by
          rw [List.getElem?_map, List.getElem?_eq_getElem hik]
          rfl
        cases e2.symm.trans gi
        have sT : Same J (upd J T (.tup [.int (i : Nat), .ref ks[i].1])) := same_upd nT
        have hm : ks[i] ∈ ks := List.getElem_mem hik
        have sq := same_tup (sm.trans sT) (same_tup s0 (hT.2 _ hm))
        obtain ⟨c, x, y, ek, hc, h1, h2, h3, h4⟩ := hA _ hm
        rw [ek] at sq
        refine ⟨T, [.int (i : Nat), .ref ks[i].1], rfl, SqT.of upd_same, rfl, .int (i : Nat), [.ref ks[i].1], rfl, .ref ks[i].1, [], rfl, ⟨ks[i].1, [.str ⟨#[c]⟩, .int x, .int y], rfl, sq, rfl, .str ⟨#[c]⟩, [.int x, .int y], rfl, .int x, [.int y], rfl, .int y, [], rfl, rfl, rfl, ?_⟩⟩
        refine ⟨_, rfl, _, rfl, p, signsV "abc", rfl, .inl (SqL.of (sT _ _ (sm _ _ e0))), rfl, by decide +kernel, _, rfl, ?_⟩
        rw [in_abc hc]
        refine iteF ?_
        refine ⟨_, rfl, _, _, rfl, rfl, _, rfl, ?_⟩
        rw [decide_eq_true (show (0 : Int) ≤ x from h1)]
        refine iteT ⟨_, rfl, _, _, rfl, rfl, _, rfl, ?_⟩
        rw [decide_eq_true (show x < n from h2)]
        refine iteF ?_
        refine ⟨_, rfl, _, _, rfl, rfl, _, rfl, ?_⟩
        rw [decide_eq_true (show (0 : Int) ≤ y from h3)]
        refine iteT ⟨_, rfl, _, _, rfl, rfl, _, rfl, ?_⟩
        rw [decide_eq_true (show y < n from h4)]
        refine iteF ?_
        exact ⟨_, _, _, _, rfl, sm.trans sT⟩
      · rintro σ J ⟨y3, y4, y5, y6, rfl, sm⟩
        exact KQ J (s0.trans sm)
def spRM (K : PySem.W.Frag) : Sp := fun vs H Q _ => ∃ n l ks, vs = [.int n, .ref l] ∧ TL K H l ks ∧ (∀ p ∈ ks, MK n p.2) ∧ ∀ H', Same H H' → Q .non H'
theorem scRM : FnScope ["points", "marks", "signs", "at", "mark", "point"] ["points", "marks"] (defScope sRM) := ⟨rfl, rfl, rfl, by decide +kernel, rfl, by decide +kernel, by decide +kernel⟩
set_option maxHeartbeats 2000000 in
theorem ok_rm {f : Addr} {fd : FuncData} {tk : Tok} (F : Fun K "refuse_bad_marks" "refuse_bad_marks" sRM f fd) (mli : mg "list" = none) (me : mg "enumerate" = none) (gC : mg "MARKS" = some (.str "pqr" tk)) : FnOk P w K mg base CX0 1 f fd ["points", "marks"] (spRM K) := by
  refine F.ok scRM (fun vs H Q E h => ?_) (fun cdv A outer s H vs Q E hr h => ?_)
  · obtain ⟨n, l, ks, rfl, _⟩ := h
    rfl
  · obtain ⟨n, l, ks, rfl, hT, hA, KQ⟩ := h
    refine ⟨_, pss_cons (ps_set (i := 2) scRM.nd rfl (.inl rfl) (pe_callTy (cr_listS rfl) (by rfl) mli boot_list (pa_cons (pe_glob (v := .str "pqr") (by rfl) gC ⟨_, rfl⟩) pa_nil)))
      (pss_one (ps_for PassesOwn.never rfl (pi_enA (by rfl) me (pa_cons (pv 1) pa_nil)) (pg_tup rfl (pgs_cons (pg_name (i := 3) scRM.nd rfl (.inl rfl)) (pgs_cons (pg_tup rfl (pgs_cons (pg_name (i := 4) scRM.nd rfl (.inl rfl)) (pgs_cons (pg_name (i := 5) scRM.nd rfl (.inl rfl)) pgs_nil))) pgs_nil)))
        (pss_one (ps_if (PW.pt (pw_or (pt_cmpR op_notIn_seq (pv 4) (pv 2) (by rfl)) (pw_or1 (pt_not (pt_chain op_le op_lt pe_int (pv 5) (pv 0)))))) (pss_one ps_never) pss_nil)))), ?_⟩
    refine seq_set ⟨_, rfl, by decide, fun p np => ?_⟩
    have s0 : Same H (upd H p (.lst (signsV "pqr"))) := same_upd np
    have e0 : (upd H p (.lst (signsV "pqr"))) p = some (.lst (signsV "pqr")) := upd_same
    generalize upd H p (.lst (signsV "pqr")) = H0 at s0 e0 ⊢
    rcases hT.1 with hS | hS
    · refine ⟨_, rfl, l, refs ks, rfl, .inl ⟨s0.seq hS, for_it (walk_enum (K := K) (a := l) (xs := refs ks)) (fun i σ J => ∃ y3 y4 y5, σ = [some (.int n), some (.ref l), some (.ref p), y3, y4, y5] ∧ Same H0 J) ⟨_, _, _, rfl, Same.refl _⟩ ?_ ?_ ?_⟩⟩
      · rintro i σ J _ ⟨y3, y4, y5, rfl, sm⟩
        exact sm.seq (s0.seq hS)
      · rintro i v σ J J' hi ⟨y3, y4, y5, rfl, sm⟩ ⟨T, a1, a2, rfl, nT, rfl, e1, e2⟩
        cases e1
        have hik : i < ks.length := by
          rw [List.length_map] at hi
          exact hi
        have gi : (refs ks)[i]? = some (.ref ks[i].1) := by
          rw [List.getElem?_map, List.getElem?_eq_getElem hik]
          rfl
        cases e2.symm.trans gi
        have sT : Same J (upd J T (.tup [.int (i : Nat), .ref ks[i].1])) := same_upd nT
        have hm : ks[i] ∈ ks := List.getElem_mem hik
        have sq := same_tup (sm.trans sT) (same_tup s0 (hT.2 _ hm))
        obtain ⟨c, x, ek, hc, h1, h2⟩ := hA _ hm
        rw [ek] at sq
        refine ⟨T, [.int (i : Nat), .ref ks[i].1], rfl, SqT.of upd_same, rfl, .int (i : Nat), [.ref ks[i].1], rfl, .ref ks[i].1, [], rfl, ⟨ks[i].1, [.str ⟨#[c]⟩, .int x], rfl, sq, rfl, .str ⟨#[c]⟩, [.int x], rfl, .int x, [], rfl, rfl, rfl, ?_⟩⟩
        refine ⟨_, rfl, _, rfl, p, signsV "pqr", rfl, .inl (SqL.of (sT _ _ (sm _ _ e0))), rfl, by decide +kernel, _, rfl, ?_⟩
        rw [in_pqr hc]
        refine iteF ?_
        refine ⟨_, rfl, _, _, rfl, rfl, _, rfl, ?_⟩
        rw [decide_eq_true (show (0 : Int) ≤ x from h1)]
        refine iteT ⟨_, rfl, _, _, rfl, rfl, _, rfl, ?_⟩
        rw [decide_eq_true (show x < n from h2)]
        refine iteF ?_
        exact ⟨_, _, _, rfl, sm.trans sT⟩
      · rintro σ J ⟨y3, y4, y5, rfl, sm⟩
        exact KQ J (s0.trans sm)
    · refine ⟨_, rfl, l, refs ks, rfl, .inr ⟨same_tup s0 hS, for_it (walk_enumT (K := K) (a := l) (xs := refs ks)) (fun i σ J => ∃ y3 y4 y5, σ = [some (.int n), some (.ref l), some (.ref p), y3, y4, y5] ∧ Same H0 J) ⟨_, _, _, rfl, Same.refl _⟩ ?_ ?_ ?_⟩⟩
      · rintro i σ J _ ⟨y3, y4, y5, rfl, sm⟩
        exact same_tup sm (same_tup s0 hS)
      · rintro i v σ J J' hi ⟨y3, y4, y5, rfl, sm⟩ ⟨T, a1, a2, rfl, nT, rfl, e1, e2⟩
        cases e1
        have hik : i < ks.length := by
          rw [List.length_map] at hi
          exact hi
        have gi : (refs ks)[i]? = some (.ref ks[i].1) := by
          rw [List.getElem?_map, List.getElem?_eq_getElem hik]
          rfl
        cases e2.symm.trans gi
        have sT : Same J (upd J T (.tup [.int (i : Nat), .ref ks[i].1])) := same_upd nT
        have hm : ks[i] ∈ ks := List.getElem_mem hik
        have sq := same_tup (sm.trans sT) (same_tup s0 (hT.2 _ hm))
        obtain ⟨c, x, ek, hc, h1, h2⟩ := hA _ hm
        rw [ek] at sq
        refine ⟨T, [.int (i : Nat), .ref ks[i].1], rfl, SqT.of upd_same, rfl, .int (i : Nat), [.ref ks[i].1], rfl, .ref ks[i].1, [], rfl, ⟨ks[i].1, [.str ⟨#[c]⟩, .int x], rfl, sq, rfl, .str ⟨#[c]⟩, [.int x], rfl, .int x, [], rfl, rfl, rfl, ?_⟩⟩
        refine ⟨_, rfl, _, rfl, p, signsV "pqr", rfl, .inl (SqL.of (sT _ _ (sm _ _ e0))), rfl, by decide +kernel, _, rfl, ?_⟩
        rw [in_pqr hc]
        refine iteF ?_
        refine ⟨_, rfl, _, _, rfl, rfl, _, rfl, ?_⟩
        rw [decide_eq_true (show (0 : Int) ≤ x from h1)]
        refine iteT ⟨_, rfl, _, _, rfl, rfl, _, rfl, ?_⟩
        rw [decide_eq_true (show x < n from h2)]
        refine iteF ?_
        exact ⟨_, _, _, rfl, sm.trans sT⟩
      · rintro σ J ⟨y3, y4, y5, rfl, sm⟩
        exact KQ J (s0.trans sm)
end
end Wb
namespace Wb
open PySem PySem.Spec PyProof.Rows L2 RZ Sg
/-! ### the rows gathered by their first two things -/
def k2 (p : TK) : List Key := p.2.take 2
def lastV (p : TK) : V := kV (p.2.getD 2 (.inl 0))
def gat (rows : List TK) (k : List Key) : List V := (rows.filter fun p => decide (k2 p = k)).map lastV
theorem gat_add (rows : List TK) (p : TK) (k : List Key) : gat (rows ++ [p]) k = if k2 p = k then gat rows k ++ [lastV p] else gat rows k := by
  unfold gat
  rw [List.filter_append, List.map_append]
  by_cases h : k2 p = k
  · rw [if_pos h]
    simp [h]
  · rw [if_neg h]
    simp [h]
theorem gat_len (rows : List TK) (k : List Key) : (gat rows k).length ≤ rows.length := by
  unfold gat
  rw [List.length_map]
  exact List.length_filter_le ..
/-- the dict at d, new since H0, holds by each key the last things of its rows -/
structure GD (H0 H : Hp) (d : Addr) (rows : List TK) : Prop where
  nd : H0 d = none
  ex : ∃ kvs, H d = some (.dT kvs) ∧ kvs.length ≤ rows.length ∧ (∀ k, valV kvs k = none → gat rows k = []) ∧ (∀ k v, valV kvs k = some v → ∃ q, v = .ref q ∧ H0 q = none ∧ H q = some (.lst (gat rows k))) ∧
    ∀ k j q, valV kvs k = some (.ref q) → valV kvs j = some (.ref q) → k = j
theorem GD.new {H0 H : Hp} {d p : Addr} {o : HO} {rows : List TK} (g : GD H0 H d rows) (h : H p = none) : GD H0 (upd H p o) d rows := by
  obtain ⟨kvs, e, l, h1, h2, h3⟩ := g.ex
  refine ⟨g.nd, kvs, by rw [upd_ne (ne_of_none e h)]; exact e, l, h1, fun k v hv => ?_, h3⟩
  obtain ⟨q, eq, nq, hq⟩ := h2 k v hv
  exact ⟨q, eq, nq, by rw [upd_ne (ne_of_none hq h)]; exact hq⟩
section
variable {P : Program} {w : World} {K : PySem.W.Frag} {mg : Str → Option Value} {base : Heap}
def R3 (k : List Key) : Prop := ∃ (z : Str) (x y : Int), k = [.inr z, .inl x, .inl y]
def spGat (K : PySem.W.Frag) : Sp := fun vs H Q _ => ∃ l ks, vs = [.ref l] ∧ SqL K H l (refs ks) ∧ (∀ p ∈ ks, SqT K H p.1 (p.2.map kV) ∧ R3 p.2) ∧ ks.length ≤ 1000 ∧ ∀ d H', Same H H' → GD H H' d ks → Q (.ref d) H'
theorem scG : FnScope ["rows", "lasts", "colour", "point", "last"] ["rows"] (defScope sGat) := ⟨rfl, rfl, rfl, by decide +kernel, rfl, by decide +kernel, by decide +kernel⟩
set_option maxHeartbeats 2000000 in
theorem ok_gat {f : Addr} {fd : FuncData} (F : Fun K "gathered" "gathered" sGat f fd) : FnOk P w K mg base CX0 1 f fd ["rows"] (spGat K) := by
  refine F.ok scG (fun vs H Q E h => ?_) (fun cdv A outer s H vs Q E hr h => ?_)
  · obtain ⟨l, ks, rfl, _⟩ := h
    rfl
  · obtain ⟨l, ks, rfl, hS, hK, hlen, KQ⟩ := h
    have hu := hu_of hr
    refine ⟨_, pss_cons (ps_set (i := 1) scG.nd rfl (.inl rfl) pe_dnewT)
      (pss_cons (ps_for PassesOwn.never rfl (pi_list (pv 0)) (pg_tup rfl (pgs_cons (pg_name (i := 2) scG.nd rfl (.inl rfl)) (pgs_cons (pg_name (i := 3) scG.nd rfl (.inl rfl)) (pgs_cons (pg_name (i := 4) scG.nd rfl (.inl rfl)) pgs_nil))))
        (pss_one (ps_expr (pe_bm PySem.F.plainAttrs_list PySem.F.slot_list_append PySem.F.type_list_append mt_append (pe_setT hu (pv 1) (pe_tup (pa_cons (pv 2) (pa_cons (pv 3) pa_nil))) (pe_lst pa_nil) ⟨rfl, rfl, rfl, rfl⟩) (pa_cons (pv 4) pa_nil)))))
      (pss_one (ps_ret (pv 1)))), ?_⟩
    refine seq_set fun d nd => ?_
    have s0 : Same H (upd H d (.dT [])) := same_upd nd
    have g0 : GD H (upd H d (.dT [])) d [] := ⟨nd, [], upd_same, Nat.le_refl _, (fun _ _ => rfl), (fun k v hv => by rw [valV_nil] at hv; cases hv), (fun k j q hv => by rw [valV_nil] at hv; cases hv)⟩
    generalize upd H d (.dT []) = H0 at s0 g0 ⊢
    refine ⟨_, rfl, l, rfl, ⟨_, s0.seq hS⟩, for_list (xs := refs ks) (fun i σ J => ∃ y2 y3 y4, σ = [some (.ref l), some (.ref d), y2, y3, y4] ∧ Same H J ∧ GD H J d (ks.take i)) ⟨_, _, _, rfl, s0, g0⟩ ?_ ?_ ?_⟩
    · rintro i σ J _ ⟨y2, y3, y4, _, sm, _⟩
      exact sm.seq hS
    · rintro i v σ J hv ⟨y2, y3, y4, rfl, sm, g⟩
      have hik : i < ks.length := by
        have := (List.getElem?_eq_some_iff.mp hv).1
        rwa [List.length_map] at this
      have gi : (refs ks)[i]? = some (.ref ks[i].1) := by
        rw [List.getElem?_map, List.getElem?_eq_getElem hik]
        rfl
      cases hv.symm.trans gi
      have hm : ks[i] ∈ ks := List.getElem_mem hik
      obtain ⟨hq, z, x, y, ek⟩ := hK _ hm
      have sq := same_tup sm hq
      rw [ek] at sq
      have ht : ks.take (i + 1) = ks.take i ++ [ks[i]] := by
        rw [List.take_add_one, List.getElem?_eq_getElem hik]
        rfl
      have e2 : k2 ks[i] = [.inr z, .inl x] := by
        unfold k2
        rw [ek]
        rfl
      have el : lastV ks[i] = .int y := by
        unfold lastV
        rw [ek]
        rfl
      refine ⟨ks[i].1, [.str z, .int x, .int y], rfl, sq, rfl, .str z, [.int x, .int y], rfl, .int x, [.int y], rfl, .int y, [], rfl, rfl, ?_⟩
      obtain ⟨kv0, e0, _⟩ := g.ex
      refine ⟨_, rfl, d, kv0, rfl, e0, _, rfl, _, rfl, by show 2 ≤ sizeLine; decide, fun T nT => ?_⟩
      have g1 := g.new (o := .tup [.str z, .int x]) nT
      have s1 : Same H (upd J T (.tup [.str z, .int x])) := sm.trans (same_upd nT)
      have eT : (upd J T (.tup [.str z, .int x])) T = some (.tup (([.inr z, .inl x] : List Key).map kV)) := upd_same
      generalize upd J T (.tup [.str z, .int x]) = J1 at g1 s1 eT ⊢
      refine ⟨Nat.zero_le _, fun q' nq => ?_⟩
      have g2 := g1.new (o := .lst []) nq
      have s2 : Same H (upd J1 q' (.lst [])) := s1.trans (same_upd nq)
      have eT2 := same_upd (o := .lst []) nq _ _ eT
      have eq' : (upd J1 q' (.lst [])) q' = some (.lst []) := upd_same
      have hq0 : H q' = none := s1.free nq
      have fr : ∀ k q, (∃ kvs, (upd J1 q' (.lst [])) d = some (.dT kvs) ∧ valV kvs k = some (.ref q)) → q ≠ q' := by
        rintro k q ⟨kvs, ekv, hv2⟩ rfl
        obtain ⟨kv1, e1, _, _, h2, _⟩ := g1.ex
        have e1' := same_upd (o := .lst []) nq _ _ e1
        rw [ekv] at e1'
        cases e1'
        obtain ⟨q1, z1, _, hq1⟩ := h2 k _ hv2
        cases z1
        rw [nq] at hq1
        cases hq1
      generalize upd J1 q' (.lst []) = J2 at g2 s2 eT2 eq' fr ⊢
      obtain ⟨kvs, e1, hl, h1, h2, h3⟩ := g2.ex
      have ltn : (ks.take i).length ≤ 1000 := by
        rw [List.length_take]
        omega
      refine ⟨T, kvs, [.inr z, .inl x], rfl, e1, eT2, small1000 (by omega), fun v hv2 => ?_, fun hn => ?_⟩
      · obtain ⟨q, rfl, nq0, hq2⟩ := h2 _ _ hv2
        refine ⟨.inl ⟨rfl, _, SqL.of hq2⟩, _, rfl, q, _, _, rfl, rfl, hq2, Nat.lt_of_le_of_lt (gat_len _ _) (small1000 ltn), ?_⟩
        have dq : d ≠ q := ne_of e1 hq2 (fun z => nomatch z)
        refine ⟨_, _, _, rfl, fun c o ec => ?_, ⟨nd, kvs, by rw [upd_ne dq]; exact e1, by rw [ht, List.length_append]; exact Nat.le_succ_of_le hl, fun k hk => ?_, fun k u hk => ?_, h3⟩⟩
        · rw [upd_ne (ne_of_none ec nq0)]
          exact s2 _ _ ec
        · rw [ht, gat_add, e2, if_neg (fun z => by rw [← z, hv2] at hk; cases hk)]
          exact h1 k hk
        · obtain ⟨q1, rfl, n1, hq1⟩ := h2 k u hk
          refine ⟨q1, rfl, n1, ?_⟩
          rw [ht, gat_add, e2, el]
          by_cases hkk : ([.inr z, .inl x] : List Key) = k
          · subst hkk
            rw [hv2] at hk
            cases hk
            rw [upd_same, if_pos rfl]
          · rw [if_neg hkk, upd_ne (fun z => hkk (h3 _ _ q hv2 (by rw [← z]; exact hk)))]
            exact hq1
      · have g00 := h1 _ hn
        have dq : d ≠ q' := ne_of e1 eq' (fun z => nomatch z)
        have ed : (upd J2 d (.dT (putK kvs [.inr z, .inl x] (.ref q')))) q' = some (.lst []) := by
          rw [upd_ne dq.symm]
          exact eq'
        refine ⟨.inl ⟨rfl, _, SqL.of ed⟩, _, rfl, q', _, _, rfl, rfl, ed, by decide, ?_⟩
        refine ⟨_, _, _, rfl, fun c o ec => ?_, ⟨nd, putK kvs [.inr z, .inl x] (.ref q'), by rw [upd_ne dq, upd_same], ?_, fun k hk => ?_, fun k u hk => ?_, fun k j q hk hj => ?_⟩⟩
        · rw [upd_ne (ne_of_none ec hq0), upd_ne (ne_of_none ec nd)]
          exact s2 _ _ ec
        · rw [putK_new _ hn, ht, List.length_append, List.length_append]
          exact Nat.succ_le_succ hl
        · rw [valV_put] at hk
          by_cases hkk : k = ([.inr z, .inl x] : List Key)
          · rw [if_pos hkk] at hk
            cases hk
          · rw [if_neg hkk] at hk
            rw [ht, gat_add, e2, if_neg (fun z => hkk z.symm)]
            exact h1 k hk
        · rw [valV_put] at hk
          by_cases hkk : k = ([.inr z, .inl x] : List Key)
          · rw [if_pos hkk] at hk
            cases hk
            refine ⟨q', rfl, hq0, ?_⟩
            rw [upd_same, ht, gat_add, e2, if_pos hkk.symm, hkk, g00, el]
          · rw [if_neg hkk] at hk
            obtain ⟨q1, rfl, n1, hq1⟩ := h2 k u hk
            refine ⟨q1, rfl, n1, ?_⟩
            rw [upd_ne (fr k q1 ⟨kvs, e1, hk⟩), upd_ne (ne_of hq1 e1 (fun z => nomatch z)), ht, gat_add, e2, if_neg (fun z => hkk z.symm)]
            exact hq1
        · rw [valV_put] at hk hj
          by_cases hkk : k = ([.inr z, .inl x] : List Key)
          · rw [if_pos hkk] at hk
            cases hk
            by_cases hjj : j = ([.inr z, .inl x] : List Key)
            · rw [hkk, hjj]
            · rw [if_neg hjj] at hj
              exact absurd rfl (fr j _ ⟨kvs, e1, hj⟩)
          · rw [if_neg hkk] at hk
            by_cases hjj : j = ([.inr z, .inl x] : List Key)
            · rw [if_pos hjj] at hj
              cases hj
              exact absurd rfl (fr k _ ⟨kvs, e1, hk⟩)
            · rw [if_neg hjj] at hj
              exact h3 k j q hk hj
    · rintro σ J ⟨y2, y3, y4, rfl, sm, g⟩
      rw [List.length_map, List.take_length] at g
      exact ⟨_, rfl, KQ d J sm g⟩
end
end Wb
namespace Wb
open PySem PySem.Spec PyProof.Rows L2 RZ Sg
/-! ### a web as it stands -/
def flds (pl ar mr ow bw : Addr) : List (Str × V) := putF "backward" (.ref bw) (putF "onward" (.ref ow) (putF "mark_rows" (.ref mr) (putF "arrow_rows" (.ref ar) (putF "places" (.ref pl) []))))
theorem flds_eq (pl ar mr ow bw : Addr) : flds pl ar mr ow bw = ([("places", V.ref pl), ("arrow_rows", V.ref ar), ("mark_rows", V.ref mr), ("onward", V.ref ow), ("backward", V.ref bw)] : List (Str × V)) := by
  rfl
/-- a dict of lists by two things -/
def GX (H : Hp) (d : Addr) (f : List Key → List V) : Prop := ∃ kvs, H d = some (.dT kvs) ∧ (∀ k, valV kvs k = none → f k = []) ∧ ∀ k v, valV kvs k = some v → ∃ q, v = .ref q ∧ H q = some (.lst (f k))
theorem GX.same {H H' : Hp} {d : Addr} {f : List Key → List V} (s : Same H H') (g : GX H d f) : GX H' d f := by
  obtain ⟨kvs, e, h1, h2⟩ := g
  refine ⟨kvs, s _ _ e, h1, fun k v hv => ?_⟩
  obtain ⟨q, eq, hq⟩ := h2 k v hv
  exact ⟨q, eq, s _ _ hq⟩
theorem GD.gx {H0 H : Hp} {d : Addr} {rows : List TK} (g : GD H0 H d rows) : GX H d (gat rows) := by
  obtain ⟨kvs, e, _, h1, h2, _⟩ := g.ex
  refine ⟨kvs, e, h1, fun k v hv => ?_⟩
  obtain ⟨q, eq, _, hq⟩ := h2 k v hv
  exact ⟨q, eq, hq⟩
def swK (k : List Key) : List Key := [k.getD 0 (.inl 0), k.getD 2 (.inl 0), k.getD 1 (.inl 0)]
theorem Xt.put {b : Addr} {H H' : Hp} {o : HO} (x : Xt b H H') : Xt b H (upd H' b o) := fun c u hc e => by
  rw [upd_ne hc]
  exact x c u hc e
theorem GX.xt {x C dx d : Addr} {fs : List (Str × V)} {H H' : Hp} {f : List Key → List V} (s : Xt x H H') (hx : H x = some (.ins C dx fs)) (g : GX H d f) : GX H' d f := by
  obtain ⟨kvs, e, h1, h2⟩ := g
  refine ⟨kvs, s _ _ (ne_of e hx (fun z => nomatch z)) e, h1, fun k v hv => ?_⟩
  obtain ⟨q, eq, hq⟩ := h2 k v hv
  exact ⟨q, eq, s _ _ (ne_of hq hx (fun z => nomatch z)) hq⟩
theorem xt_tup' {K : PySem.W.Frag} {x p : Addr} {ys : List V} {H H' : Hp} {xs : List V} (s : Xt x H H') (hx : H x = some (.lst ys)) (h : SqT K H p xs) : SqT K H' p xs := by
  rcases h with (h | ⟨o, h⟩) | h
  · exact .inl (.inl (s _ _ (ne_of h hx (fun z => nomatch z)) h))
  · exact .inl (.inr ⟨o, s _ _ (ne_of h hx (fun z => nomatch z)) h⟩)
  · exact .inr h
def GXn (H0 H : Hp) (d : Addr) (f : List Key → List V) : Prop := H0 d = none ∧ ∃ kvs, H d = some (.dT kvs) ∧ (∀ k, valV kvs k = none → f k = []) ∧ ∀ k v, valV kvs k = some v → ∃ q, v = .ref q ∧ H0 q = none ∧ H q = some (.lst (f k))
theorem GXn.gx {H0 H : Hp} {d : Addr} {f : List Key → List V} (g : GXn H0 H d f) : GX H d f := by
  obtain ⟨_, kvs, e, h1, h2⟩ := g
  refine ⟨kvs, e, h1, fun k v hv => ?_⟩
  obtain ⟨q, eq, _, hq⟩ := h2 k v hv
  exact ⟨q, eq, hq⟩
theorem GXn.keep {H0 H H' : Hp} {d : Addr} {f : List Key → List V} (g : GXn H0 H d f) (k : ∀ c o, H0 c = none → H c = some o → H' c = some o) : GXn H0 H' d f := by
  obtain ⟨n0, kvs, e, h1, h2⟩ := g
  refine ⟨n0, kvs, k _ _ n0 e, h1, fun z v hv => ?_⟩
  obtain ⟨q, eq, nq, hq⟩ := h2 z v hv
  exact ⟨q, eq, nq, k _ _ nq hq⟩
theorem GD.gxn {x C dx d : Addr} {fs : List (Str × V)} {H J J' : Hp} {rows : List TK} (g : GD J J' d rows) (s : Xt x H J) (hx : J x = some (.ins C dx fs)) : GXn H J' d (gat rows) := by
  obtain ⟨kvs, e, _, h1, h2, _⟩ := g.ex
  refine ⟨s.free (ne_of_none hx g.nd).symm g.nd, kvs, e, h1, fun k v hv => ?_⟩
  obtain ⟨q, eq, nq, hq⟩ := h2 k v hv
  exact ⟨q, eq, s.free (ne_of_none hx nq).symm nq, hq⟩
structure WebAt (C : Addr) (H : Hp) (x : Addr) (n : Int) (As Ms : List TK) : Prop where
  ex : ∃ dx pl ar mr ow bw, H x = some (.ins C dx (flds pl ar mr ow bw)) ∧ H pl = some (.lst (rgV 0 n)) ∧ H ar = some (.lst (refs As)) ∧ H mr = some (.lst (refs Ms)) ∧ GX H ow (gat As) ∧ ∃ Bs : List TK, Bs.map (·.2) = As.map (fun p => swK p.2) ∧ GX H bw (gat Bs)
theorem WebAt.same {C : Addr} {H H' : Hp} {x : Addr} {n : Int} {As Ms : List TK} (s : Same H H') (w : WebAt C H x n As Ms) : WebAt C H' x n As Ms := by
  obtain ⟨dx, pl, ar, mr, ow, bw, h1, h2, h3, h4, h5, Bs, h6, h7⟩ := w.ex
  exact ⟨dx, pl, ar, mr, ow, bw, s _ _ h1, s _ _ h2, s _ _ h3, s _ _ h4, h5.same s, Bs, h6, h7.same s⟩
/-- a web all of whose parts are new since H0 -/
def WebOwn (C : Addr) (H0 H : Hp) (x : Addr) (n : Int) (As Ms : List TK) : Prop := ∀ H', (∀ c o, H0 c = none ∨ c = x → H c = some o → H' c = some o) → WebAt C H' x n As Ms
/-- L holds the keys of ks, each once, rising -/
structure Srt (ks L : List TK) : Prop where
  of : ∀ p ∈ L, p ∈ ks
  all : ∀ p ∈ ks, p.2 ∈ L.map (·.2)
  nd : (L.map (·.2)).Nodup
  ris : L.Pairwise fun p q => ordOf 128 p ≤ ordOf 128 q
structure WT (K : PySem.W.Frag) (mg : Str → Option Value) (C : Addr) : Prop where
  cl : Cls K C
  n1 : NoAttr K C "places"
  n2 : NoAttr K C "arrow_rows"
  n3 : NoAttr K C "mark_rows"
  n4 : NoAttr K C "onward"
  n5 : NoAttr K C "backward"
  list : mg "list" = none
  range : mg "range" = none
  set : mg "set" = none
  sorted : mg "sorted" = none
  most : ∃ t, mg "MOST_POINTS" = some (.int 81 t)
theorem xt_tup {K : PySem.W.Frag} {x C dx p : Addr} {fs : List (Str × V)} {H H' : Hp} {xs : List V} (s : Xt x H H') (hx : H x = some (.ins C dx fs)) (h : SqT K H p xs) : SqT K H' p xs := by
  rcases h with (h | ⟨o, h⟩) | h
  · exact .inl (.inl (s _ _ (ne_of h hx (fun z => nomatch z)) h))
  · exact .inl (.inr ⟨o, s _ _ (ne_of h hx (fun z => nomatch z)) h⟩)
  · exact .inr h
theorem xt_lst {K : PySem.W.Frag} {x C dx p : Addr} {fs : List (Str × V)} {H H' : Hp} {xs : List V} (s : Xt x H H') (hx : H x = some (.ins C dx fs)) (h : SqL K H p xs) : SqL K H' p xs := by
  rcases h with (h | ⟨o, h⟩) | h
  · exact .inl (.inl (s _ _ (ne_of h hx (fun z => nomatch z)) h))
  · exact .inl (.inr ⟨o, s _ _ (ne_of h hx (fun z => nomatch z)) h⟩)
  · exact .inr h
theorem TL.xt {K : PySem.W.Frag} {x C dx l : Addr} {fs : List (Str × V)} {H H' : Hp} {ks : List TK} (s : Xt x H H') (hx : H x = some (.ins C dx fs)) (h : TL K H l ks) : TL K H' l ks :=
  ⟨h.1.imp (fun z => xt_lst s hx z) fun z => xt_tup s hx z, fun p hp => xt_tup s hx (h.2 p hp)⟩
theorem seq_fld {K : PySem.W.Frag} {tv ta : TE} {f : Str} {rest : TS} {D : Ends} {σ : L2.St} {H : Hp} (h : tv σ H fun y H1 => ta σ H1 fun x H2 => ∃ a C dx fs, x = .ref a ∧ H2 a = some (.ins C dx fs) ∧ Cls K C ∧ NoAttr K C f ∧ fs.length < 1000 ∧ rest D σ (upd H2 a (.ins C dx (putF f y fs)))) : tSeq (sFld K ta tv f) rest D σ H := h
theorem seq_drop {te : TE} {rest : TS} {D : Ends} {σ : L2.St} {H : Hp} (h : te σ H fun _ H1 => rest D σ H1) : tSeq (tDrop te) rest D σ H := h
theorem seq_if {c : TT} {t u rest : TS} {D : Ends} {σ : L2.St} {H : Hp} (h : c σ H fun b H1 => if b = true then tSeq t rest D σ H1 else tSeq u rest D σ H1) : tSeq (tIfS c t u) rest D σ H := h
theorem seq_next {rest : TS} {D : Ends} {σ : L2.St} {H : Hp} (h : rest D σ H) : tSeq tNext rest D σ H := h
theorem Srt.len {ks L : List TK} (h : Srt ks L) : L.length ≤ ks.length := by
  have := List.Nodup.length_le_of_subset h.nd (l₂ := ks.map (·.2)) (fun z hz => by
    obtain ⟨p, hp, rfl⟩ := List.mem_map.mp hz
    exact List.mem_map.mpr ⟨p, h.of p hp, rfl⟩)
  rwa [List.length_map, List.length_map] at this
theorem read_ss {P : Program} {w : World} {K : PySem.W.Frag} {i d : Nat} {σ : L2.St} {H : Hp} {Q : VK} {l : Addr} {ks : List TK} (hv : σ[i]? = some (some (.ref l))) (hT : TL K H l ks) (h64 : ks.length < 64) (tie : ∀ p ∈ ks, TieK 128 d p.2)
    (q : ∀ L p H', Srt ks L → Same H H' → H p = none → H' p = some (.lst (refs L)) → Q (.ref p) H') : tCB (rSortX K P w) (tCons (tCB (rSetX K P w) (tCons (tVar i) tNil)) tNil) σ H Q := by
  refine ⟨_, hv, l, ks, rfl, hT.1, hT.2, h64, fun a L na hL1 hL2 => ?_⟩
  have s1 : Same H (upd H a (SetX P w a L)) := same_upd na
  have e1 : (upd H a (SetX P w a L)) a = some (SetX P w a L) := upd_same
  generalize upd H a (SetX P w a L) = H1 at s1 e1 ⊢
  refine ⟨a, L, d, 128, rfl, .inl e1, fun p hp => same_tup s1 (hT.2 p (hL1 p hp)), fun p hp => tie p (hL1 p hp), fun L' p pm ris nd np => ?_⟩
  refine q L' p _ ⟨fun z hz => hL1 z (pm.mem_iff.mp hz), fun z hz => (pm.map _).mem_iff.mpr (hL2 z hz), nd e1, ris⟩ (s1.trans (same_upd np)) (s1.free np) upd_same
section
variable {P : Program} {w : World} {K : PySem.W.Frag} {mg : Str → Option Value} {base : Heap}
def spInit (K : PySem.W.Frag) (C : Addr) : Sp := fun vs H Q _ => ∃ x dx n la lm ka km, vs = [.ref x, .int n, .ref la, .ref lm] ∧ H x = some (.ins C dx []) ∧ 0 ≤ n ∧ n ≤ 81 ∧ TL K H la ka ∧ (∀ p ∈ ka, AK n p.2) ∧ ka.length < 64 ∧ TL K H lm km ∧ (∀ p ∈ km, MK n p.2) ∧ km.length < 64 ∧
  ∀ H' As Ms, WebOwn C H H' x n As Ms → Srt ka As → Srt km Ms → Xt x H H' → Q .non H'
abbrev NI : List Str := ["self", "points", "arrows", "marks", "colour", "start", "end"]
theorem scI : FnScope NI ["self", "points", "arrows", "marks"] (defScope sInit) := ⟨rfl, rfl, rfl, by decide +kernel, rfl, by decide +kernel, by decide +kernel⟩
theorem AK.r3 {n : Int} {k : List Key} (h : AK n k) : R3 k := by
  obtain ⟨c, x, y, e, _⟩ := h
  exact ⟨_, x, y, e⟩
set_option maxHeartbeats 4000000 in
theorem ok_init {f C fA fM fG : Addr} {fd dA dM dG : FuncData} {dvs : List V} {kws : List (Str × V)} (F : FunD K "__init__" "Web.__init__" (defArgs sInit) (defBody sInit) (defScope sInit) dvs kws f fd) (T : WT K mg C) (oA : Df P w K mg base 1 "refuse_bad_arrows" ["points", "arrows"] (spRA K) fA dA)
    (oM : Df P w K mg base 1 "refuse_bad_marks" ["points", "marks"] (spRM K) fM dM) (oG : Df P w K mg base 1 "gathered" ["rows"] (spGat K) fG dG) : FnOk P w K mg base CX0 2 f fd ["self", "points", "arrows", "marks"] (spInit K C) := by
  obtain ⟨tkM, gM⟩ := T.most
  refine F.ok scI (fun vs H Q E h => ?_) (fun cdv A outer s H vs Q E hr h => ?_)
  · obtain ⟨x, dx, n, la, lm, ka, km, rfl, _⟩ := h
    rfl
  · obtain ⟨x, dx, n, la, lm, ka, km, rfl, hx, n0, n1, ta, ga, la64, tm, gm, lm64, KQ⟩ := h
    have hu : (A.deeper (envOfC "Web.__init__" (defScope sInit) s.heap.objs.size f cdv)).units + 64 < cLine := by
      have := hr.un
      omega
    refine ⟨_, PSs.nox (pss_cons (ps_if (pt_not (pt_chain op_le op_le pe_int (pv 1) (pe_glob (v := .int 81) (by rfl) gM ⟨_, rfl⟩))) (pss_one ps_never) pss_nil)
      (pss_cons (ps_expr (pe_call oA.ok hr (by rfl) oA.gl oA.kp oA.bd .nil pass0 (pa_cons (pv 1) (pa_cons (pv 2) pa_nil))))
      (pss_cons (ps_expr (pe_call oM.ok hr (by rfl) oM.gl oM.kp oM.bd .nil pass0 (pa_cons (pv 1) (pa_cons (pv 3) pa_nil))))
      (pss_cons (ps_fld (pv 0) (pe_listRg rfl (by rfl) T.list (prg_1 (by rfl) T.range (pv 1))) rfl)
      (pss_cons (ps_fld (pv 0) (pe_callB (cr_sortX rfl) (by rfl) T.sorted (by decide +kernel) (pa_cons (pe_callTy (cr_setX rfl hu) (by rfl) T.set (by decide +kernel) (pa_cons (pv 2) pa_nil)) pa_nil)) rfl)
      (pss_cons (ps_fld (pv 0) (pe_callB (cr_sortX rfl) (by rfl) T.sorted (by decide +kernel) (pa_cons (pe_callTy (cr_setX rfl hu) (by rfl) T.set (by decide +kernel) (pa_cons (pv 3) pa_nil)) pa_nil)) rfl)
      (pss_cons (ps_fld (pv 0) (pe_call oG.ok hr (by rfl) oG.gl oG.kp oG.bd .nil pass0 (pa_cons (pe_fld (pv 0) rfl) pa_nil)) rfl)
      (pss_one (ps_fld (pv 0) (pe_call oG.ok hr (by rfl) oG.gl oG.kp oG.bd .nil pass0 (pa_cons
        (pe_lc (own := [("colour", 4), ("start", 5), ("end", 6)]) (g := gTup K 3 (gCons (gName 4) (gCons (gName 5) (gCons (gName 6) gNil)))) (tt := tYes) rfl scI.nd (pi_list (pe_fld (pv 0) rfl)) (blkOk_by (N := NI) (sc := defScope sInit) (by decide +kernel))
          (fun _ _ _ _ _ => pg_tup rfl (pgs_cons (pg_name (i := 4) scI.nd rfl (.inl rfl)) (pgs_cons (pg_name (i := 5) scI.nd rfl (.inl rfl)) (pgs_cons (pg_name (i := 6) scI.nd rfl (.inl rfl)) pgs_nil)))) (fun _ _ _ _ _ => pts_nil)
          (fun _ _ _ _ _ => pe_tup (pa_cons (pv 4) (pa_cons (pv 6) (pa_cons (pv 5) pa_nil)))))
        pa_nil)) rfl))))))))), ?_⟩
    refine seq_if ⟨_, rfl, _, _, rfl, rfl, _, rfl, ?_⟩
    rw [decide_eq_true (show (0 : Int) ≤ n from n0)]
    refine iteT ⟨_, _, rfl, rfl, _, rfl, ?_⟩
    rw [decide_eq_true (show n ≤ (81 : Int) from n1)]
    refine iteF ?_
    refine seq_next ?_
    refine seq_drop ⟨_, rfl, _, rfl, n, la, ka, rfl, ta, ga, fun H1 s1 => ?_⟩
    refine seq_drop ⟨_, rfl, _, rfl, n, lm, km, rfl, tm.same s1, gm, fun H2 s2 => ?_⟩
    have hx2 := s2 _ _ (s1 _ _ hx)
    have ta2 := (ta.same s1).same s2
    have tm2 := (tm.same s1).same s2
    have x2 : Xt x H H2 := Same.xt (s1.trans s2)
    generalize H2 = J at hx2 ta2 tm2 x2 ⊢
    clear s1 s2 ta tm
    refine seq_fld ⟨_, rfl, n, rfl, RgOk.of_le (Int.le_refl 0) (by omega) (by decide) n0, fun pl npl => ⟨_, rfl, x, C, dx, [], rfl, same_upd npl _ _ hx2, T.cl, T.n1, by decide, ?_⟩⟩
    have dpl : pl ≠ x := (ne_of_none hx2 npl).symm
    have fpl : H pl = none := x2.free dpl npl
    have x3 : Xt x H (upd (upd J pl (.lst (rgV 0 n))) x (.ins C dx (putF "places" (.ref pl) []))) := (x2.new npl).put
    have h3x : (upd (upd J pl (.lst (rgV 0 n))) x (.ins C dx (putF "places" (.ref pl) []))) x = some (.ins C dx (putF "places" (.ref pl) [])) := upd_same
    have h3p : (upd (upd J pl (.lst (rgV 0 n))) x (.ins C dx (putF "places" (.ref pl) []))) pl = some (.lst (rgV 0 n)) := by
      rw [upd_ne dpl]
      exact upd_same
    have ta3 : TL K (upd (upd J pl (.lst (rgV 0 n))) x (.ins C dx (putF "places" (.ref pl) []))) la ka := ta2.xt (((Xt.refl x J).new npl).put) hx2
    have tm3 : TL K (upd (upd J pl (.lst (rgV 0 n))) x (.ins C dx (putF "places" (.ref pl) []))) lm km := tm2.xt (((Xt.refl x J).new npl).put) hx2
    generalize upd (upd J pl (.lst (rgV 0 n))) x (.ins C dx (putF "places" (.ref pl) [])) = J3 at x3 h3x h3p ta3 tm3 ⊢
    refine seq_fld (read_ss rfl ta3 la64 (fun p hp => (ga p hp).tie (by omega)) fun As ar J4 sA s4 nar har => ⟨_, rfl, x, C, dx, _, rfl, s4 _ _ h3x, T.cl, T.n2, (show (1 : Nat) < 1000 by decide), ?_⟩)
    have dar : ar ≠ x := (ne_of_none h3x nar).symm
    have far : H ar = none := x3.free dar nar
    have y4 : Xt x J3 (upd J4 x (.ins C dx (putF "arrow_rows" (.ref ar) (putF "places" (.ref pl) [])))) := (Same.xt s4).put
    have h5x : (upd J4 x (.ins C dx (putF "arrow_rows" (.ref ar) (putF "places" (.ref pl) [])))) x = some (.ins C dx (putF "arrow_rows" (.ref ar) (putF "places" (.ref pl) []))) := upd_same
    have h5a : (upd J4 x (.ins C dx (putF "arrow_rows" (.ref ar) (putF "places" (.ref pl) [])))) ar = some (.lst (refs As)) := by
      rw [upd_ne dar]
      exact har
    generalize upd J4 x (.ins C dx (putF "arrow_rows" (.ref ar) (putF "places" (.ref pl) []))) = J5 at y4 h5x h5a ⊢
    have x5 := x3.trans y4
    have h5p := y4 _ _ dpl h3p
    have tm5 := tm3.xt y4 h3x
    have ta5 := ta3.xt y4 h3x
    clear ta3 tm3 x3 y4 s4 h3x h3p nar
    refine seq_fld (read_ss rfl tm5 lm64 (fun p hp => (gm p hp).tie (by omega)) fun Ms mr J6 sM s6 nmr hmr => ⟨_, rfl, x, C, dx, _, rfl, s6 _ _ h5x, T.cl, T.n3, (show (2 : Nat) < 1000 by decide), ?_⟩)
    have dmr : mr ≠ x := (ne_of_none h5x nmr).symm
    have fmr : H mr = none := x5.free dmr nmr
    have y6 : Xt x J5 (upd J6 x (.ins C dx (putF "mark_rows" (.ref mr) (putF "arrow_rows" (.ref ar) (putF "places" (.ref pl) []))))) := (Same.xt s6).put
    have h7x : (upd J6 x (.ins C dx (putF "mark_rows" (.ref mr) (putF "arrow_rows" (.ref ar) (putF "places" (.ref pl) []))))) x = some (.ins C dx (putF "mark_rows" (.ref mr) (putF "arrow_rows" (.ref ar) (putF "places" (.ref pl) [])))) := upd_same
    have h7m : (upd J6 x (.ins C dx (putF "mark_rows" (.ref mr) (putF "arrow_rows" (.ref ar) (putF "places" (.ref pl) []))))) mr = some (.lst (refs Ms)) := by
      rw [upd_ne dmr]
      exact hmr
    generalize upd J6 x (.ins C dx (putF "mark_rows" (.ref mr) (putF "arrow_rows" (.ref ar) (putF "places" (.ref pl) [])))) = J7 at y6 h7x h7m ⊢
    have x7 := x5.trans y6
    have h7p := y6 _ _ dpl h5p
    have h7a := y6 _ _ dar h5a
    have ta7 := ta5.xt y6 h5x
    clear tm5 ta5 x5 y6 s6 h5x h5p h5a nmr hmr
    have hAs : ∀ p ∈ As, SqT K J7 p.1 (p.2.map kV) ∧ R3 p.2 := fun p hp => ⟨ta7.2 p (sA.of p hp), (ga p (sA.of p hp)).r3⟩
    have lA : As.length < 64 := Nat.lt_of_le_of_lt sA.len la64
    refine seq_fld ⟨_, rfl, x, C, dx, _, _, rfl, h7x, T.cl, T.n2, rfl, ar, As, rfl, SqL.of h7a, hAs, by omega, fun ow J8 s8 gd => ⟨_, rfl, x, C, dx, _, rfl, s8 _ _ h7x, T.cl, T.n4, (show (3 : Nat) < 1000 by decide), ?_⟩⟩
    have dow : ow ≠ x := (ne_of_none h7x gd.nd).symm
    have gx8 : GXn H J8 ow (gat As) := gd.gxn x7 h7x
    have nx : ∀ c, H c = none → c ≠ x := fun c hc => (ne_of_none hx hc).symm
    have y8 : Xt x J7 (upd J8 x (.ins C dx (putF "onward" (.ref ow) (putF "mark_rows" (.ref mr) (putF "arrow_rows" (.ref ar) (putF "places" (.ref pl) [])))))) := (Same.xt s8).put
    have h9x : (upd J8 x (.ins C dx (putF "onward" (.ref ow) (putF "mark_rows" (.ref mr) (putF "arrow_rows" (.ref ar) (putF "places" (.ref pl) [])))))) x = some (.ins C dx (putF "onward" (.ref ow) (putF "mark_rows" (.ref mr) (putF "arrow_rows" (.ref ar) (putF "places" (.ref pl) []))))) := upd_same
    have gx9 : GXn H (upd J8 x (.ins C dx (putF "onward" (.ref ow) (putF "mark_rows" (.ref mr) (putF "arrow_rows" (.ref ar) (putF "places" (.ref pl) [])))))) ow (gat As) := gx8.keep fun c o hc e => (Xt.refl x J8).put c o (nx c hc) e
    generalize upd J8 x (.ins C dx (putF "onward" (.ref ow) (putF "mark_rows" (.ref mr) (putF "arrow_rows" (.ref ar) (putF "places" (.ref pl) []))))) = J9 at y8 h9x gx9 ⊢
    have x9 := x7.trans y8
    have h9p := y8 _ _ dpl h7p
    have h9a := y8 _ _ dar h7a
    have h9m := y8 _ _ dmr h7m
    have hA9 : ∀ p ∈ As, SqT K J9 p.1 (p.2.map kV) ∧ R3 p.2 := fun p hp => ⟨xt_tup y8 h7x (hAs p hp).1, (hAs p hp).2⟩
    clear x7 y8 h7x h7p h7a h7m ta7 hAs gx8 gd s8
    refine ⟨_, rfl, x, C, dx, _, _, rfl, h9x, T.cl, T.n2, rfl, ar, rfl, ⟨_, SqL.of h9a⟩, fun D nD => ?_⟩
    refine lc_list (xs := refs As) (fun i J => ∃ Bs : List TK, J D = some (.lst (refs Bs)) ∧ Bs.map (·.2) = (As.take i).map (fun p => swK p.2) ∧ (∀ p ∈ Bs, SqT K J p.1 (p.2.map kV) ∧ R3 p.2) ∧ Same J9 J) ⟨[], upd_same, rfl, (fun p hp => nomatch hp), same_upd nD⟩ ?_ ?_ ?_
    · rintro i J _ ⟨Bs, _, _, _, sm⟩
      exact sm.seq (SqL.of h9a)
    · rintro i v J hv ⟨Bs, hB, eB, hK, sm⟩
      have hik : i < As.length := by
        have := (List.getElem?_eq_some_iff.mp hv).1
        rwa [List.length_map] at this
      have gi : (refs As)[i]? = some (.ref As[i].1) := by
        rw [List.getElem?_map, List.getElem?_eq_getElem hik]
        rfl
      cases hv.symm.trans gi
      have hm : As[i] ∈ As := List.getElem_mem hik
      obtain ⟨hq, z, a, b, ek⟩ := hA9 _ hm
      have sq := same_tup sm hq
      rw [ek] at sq
      have ht : As.take (i + 1) = As.take i ++ [As[i]] := by
        rw [List.take_add_one, List.getElem?_eq_getElem hik]
        rfl
      have lB : Bs.length ≤ 64 := by
        have := congrArg List.length eB
        rw [List.length_map, List.length_map, List.length_take] at this
        omega
      refine ⟨As[i].1, [.str z, .int a, .int b], rfl, sq, rfl, .str z, [.int a, .int b], rfl, .int a, [.int b], rfl, .int b, [], rfl, rfl, rfl, ?_⟩
      unfold tYes
      refine Eq.mpr (if_pos rfl) ?_
      refine ⟨_, rfl, _, rfl, _, rfl, by show 3 ≤ sizeLine; decide, fun tp nt => ?_⟩
      have dD : D ≠ tp := ne_of_none hB nt
      have eD : (upd J tp (.tup [.str z, .int b, .int a])) D = some (.lst (refs Bs)) := by
        rw [upd_ne dD]
        exact hB
      have et : (upd J tp (.tup [.str z, .int b, .int a])) tp = some (.tup (([.inr z, .inl b, .inl a] : List Key).map kV)) := upd_same
      have st : Same J (upd J tp (.tup [.str z, .int b, .int a])) := same_upd nt
      generalize upd J tp (.tup [.str z, .int b, .int a]) = J' at eD et st ⊢
      refine ⟨refs Bs, eD, by rw [List.length_map]; exact Nat.lt_of_le_of_lt lB (by decide), Bs ++ [(tp, [.inr z, .inl b, .inl a])], ?_, ?_, ?_, ?_⟩
      · rw [upd_same]
        show _ = some (HO.lst (List.map _ (Bs ++ [_])))
        rw [List.map_append]
        rfl
      · rw [List.map_append, eB, ht, List.map_append]
        show _ ++ [_] = _ ++ [swK As[i].2]
        rw [ek]
        rfl
      · intro p hp
        rcases List.mem_append.mp hp with hp | hp
        · exact ⟨xt_tup' ((Same.xt st).put) hB (hK p hp).1, (hK p hp).2⟩
        · rw [List.mem_singleton] at hp
          subst hp
          refine ⟨SqT.of ?_, z, b, a, rfl⟩
          rw [upd_ne (ne_of et eD (fun z => nomatch z))]
          exact et
      · intro c o hc
        rw [upd_ne (ne_of_none hc nD)]
        exact st _ _ (sm _ _ hc)
    · rintro J ⟨Bs, hB, eB, hK, sm⟩
      rw [List.length_map, List.take_length] at eB
      have lB : Bs.length ≤ 64 := by
        have := congrArg List.length eB
        rw [List.length_map, List.length_map] at this
        omega
      refine ⟨D, Bs, rfl, SqL.of hB, hK, by omega, fun bw J' s' gd => ⟨_, rfl, x, C, dx, _, rfl, s' _ _ (sm _ _ h9x), T.cl, T.n5, (show (4 : Nat) < 1000 by decide), ?_⟩⟩
      have z9 : Xt x J9 (upd J' x (.ins C dx (flds pl ar mr ow bw))) := (Same.xt (sm.trans s')).put
      have gw : GXn H (upd J' x (.ins C dx (flds pl ar mr ow bw))) ow (gat As) := gx9.keep fun c o hc e => z9 c o (nx c hc) e
      have gb : GXn H (upd J' x (.ins C dx (flds pl ar mr ow bw))) bw (gat Bs) := (gd.gxn (x9.trans (Same.xt sm)) (sm _ _ h9x)).keep fun c o hc e => (Xt.refl x J').put c o (nx c hc) e
      exact KQ _ As Ms (fun H'' kp => ⟨dx, pl, ar, mr, ow, bw, kp _ _ (.inr rfl) upd_same, kp _ _ (.inl fpl) (z9 _ _ dpl h9p), kp _ _ (.inl far) (z9 _ _ dar h9a), kp _ _ (.inl fmr) (z9 _ _ dmr h9m), (gw.keep fun c o hc e => kp c o (.inl hc) e).gx, Bs, eB, (gb.keep fun c o hc e => kp c o (.inl hc) e).gx⟩) sA sM (x9.trans z9)
end
end Wb
namespace Wb
open PySem PySem.Spec PyProof.Rows L2 RZ Sg
abbrev sUnlike : Stmt := topS 25
abbrev sSign : Stmt := topS 27
section
variable {P : Program} {w : World} {K : PySem.W.Frag} {mg : Str → Option Value} {base : Heap}
/-! ### what a web tells -/
def spPts (C : Addr) : Sp := fun vs H Q _ => ∃ x n As Ms, vs = [.ref x] ∧ WebAt C H x n As Ms ∧ 0 ≤ n ∧ Q (.int n) H
theorem scPt : FnScope ["self"] ["self"] (defScope sPoints) := ⟨rfl, rfl, rfl, by decide +kernel, rfl, by decide +kernel, by decide +kernel⟩
theorem ok_pts {f C : Addr} {fd : FuncData} (F : Fun K "points" "Web.points" sPoints f fd) (T : WT K mg C) (ml : mg "len" = none) : FnOk P w K mg base CX0 1 f fd ["self"] (spPts C) := by
  refine F.ok scPt (fun vs H Q E h => ?_) (fun cdv A outer s H vs Q E hr h => ?_)
  · obtain ⟨x, n, As, Ms, rfl, _⟩ := h
    rfl
  · obtain ⟨x, n, As, Ms, rfl, W, n0, KQ⟩ := h
    refine ⟨_, pss_one (ps_ret (pe_callB call_len_seq (by rfl) ml PySem.boot_len (pa_cons (pe_fld (pv 0) rfl) pa_nil))), ?_⟩
    obtain ⟨dx, pl, ar, mr, ow, bw, h1, h2, _⟩ := W.ex
    refine ret_of ⟨_, rfl, x, C, dx, _, _, rfl, h1, T.cl, T.n1, rfl, pl, _, rfl, .inl (SqL.of h2), ?_⟩
    have : ((rgV 0 n).length : Int) = n := by
      unfold rgV
      rw [List.length_map, List.length_range]
      omega
    rw [this]
    exact KQ
def spArr (C : Addr) : Sp := fun vs H Q _ => ∃ x n As Ms, vs = [.ref x] ∧ WebAt C H x n As Ms ∧ ∀ p, H p = none → Q (.ref p) (upd H p (.lst (refs As)))
theorem scAr : FnScope ["self"] ["self"] (defScope sArrows) := ⟨rfl, rfl, rfl, by decide +kernel, rfl, by decide +kernel, by decide +kernel⟩
theorem ok_arr {f C : Addr} {fd : FuncData} (F : Fun K "arrows" "Web.arrows" sArrows f fd) (T : WT K mg C) : FnOk P w K mg base CX0 1 f fd ["self"] (spArr C) := by
  refine F.ok scAr (fun vs H Q E h => ?_) (fun cdv A outer s H vs Q E hr h => ?_)
  · obtain ⟨x, n, As, Ms, rfl, _⟩ := h
    rfl
  · obtain ⟨x, n, As, Ms, rfl, W, KQ⟩ := h
    refine ⟨_, pss_one (ps_ret (pe_callTy call_list_of (by rfl) T.list boot_list (pa_cons (pe_fld (pv 0) rfl) pa_nil))), ?_⟩
    obtain ⟨dx, pl, ar, mr, ow, bw, h1, _, h3, _⟩ := W.ex
    exact ret_of ⟨_, rfl, x, C, dx, _, _, rfl, h1, T.cl, T.n2, rfl, ar, _, rfl, .inl (SqL.of h3), fun p np => KQ p np⟩
def spMrk (C : Addr) : Sp := fun vs H Q _ => ∃ x n As Ms, vs = [.ref x] ∧ WebAt C H x n As Ms ∧ ∀ p, H p = none → Q (.ref p) (upd H p (.lst (refs Ms)))
theorem scMr : FnScope ["self"] ["self"] (defScope sMarks) := ⟨rfl, rfl, rfl, by decide +kernel, rfl, by decide +kernel, by decide +kernel⟩
theorem ok_mrk {f C : Addr} {fd : FuncData} (F : Fun K "marks" "Web.marks" sMarks f fd) (T : WT K mg C) : FnOk P w K mg base CX0 1 f fd ["self"] (spMrk C) := by
  refine F.ok scMr (fun vs H Q E h => ?_) (fun cdv A outer s H vs Q E hr h => ?_)
  · obtain ⟨x, n, As, Ms, rfl, _⟩ := h
    rfl
  · obtain ⟨x, n, As, Ms, rfl, W, KQ⟩ := h
    refine ⟨_, pss_one (ps_ret (pe_callTy call_list_of (by rfl) T.list boot_list (pa_cons (pe_fld (pv 0) rfl) pa_nil))), ?_⟩
    obtain ⟨dx, pl, ar, mr, ow, bw, h1, _, _, h4, _⟩ := W.ex
    exact ret_of ⟨_, rfl, x, C, dx, _, _, rfl, h1, T.cl, T.n3, rfl, mr, _, rfl, .inl (SqL.of h4), fun p np => KQ p np⟩
/-! ### things in any order -/
theorem bx_nr {H : Hp} {b q l : Addr} {ks : List TK} (B : Bx H b q) (h : H l = some (.lst (refs ks))) : l ≠ b := fun e => by
  subst e
  obtain ⟨ns, i, r, k, hb, _⟩ := B
  rw [h] at hb
  injection hb with hb
  injection hb with hb
  match ks, hb with
  | [], hb => cases hb
  | [_], hb => cases hb
  | _ :: _ :: _, hb => cases hb
/-! ### each once, rising -/
theorem Srt.strict {ks U : List TK} (h1 : ∀ p ∈ U, p ∈ ks) (h2 : ∀ p ∈ ks, p.2 ∈ U.map (·.2)) (h3 : (U.map (ordOf 128)).Pairwise (· < ·)) : Srt ks U := by
  refine ⟨h1, h2, ?_, ?_⟩
  · rw [List.pairwise_map] at h3
    unfold List.Nodup
    rw [List.pairwise_map]
    refine h3.imp fun {p q} h e => ?_
    have : ordOf 128 p = ordOf 128 q := by
      show TS.code 128 (p.2.map numK) = TS.code 128 (q.2.map numK)
      rw [e]
    omega
  · rw [List.pairwise_map] at h3
    exact h3.imp fun h => Int.le_of_lt h
def spUnl (K : PySem.W.Frag) : Sp := fun vs H Q _ => ∃ l ks d, vs = [.ref l] ∧ H l = some (.lst (refs ks)) ∧ (∀ p ∈ ks, SqT K H p.1 (p.2.map kV)) ∧ (∀ p ∈ ks, TieK 128 d p.2) ∧ ks.length < 64 ∧ ∀ p U H', H p = none → H' p = some (.lst (refs U)) → Srt ks U → Same H H' → Q (.ref p) H'
theorem scU : FnScope ["_law_some", "_law_found", "_law_one_here"] ["_law_some"] (defScope sUnlike) := ⟨rfl, rfl, rfl, by decide +kernel, rfl, by decide +kernel, by decide +kernel⟩
set_option maxHeartbeats 2000000 in
theorem ok_unl {f : Addr} {fd : FuncData} (F : Fun K "_law_unlike" "_law_unlike" sUnlike f fd) (ms : mg "sorted" = none) : FnOk P w K mg base CX0 1 f fd ["_law_some"] (spUnl K) := by
  refine F.ok scU (fun vs H Q E h => ?_) (fun cdv A outer s H vs Q E hr h => ?_)
  · obtain ⟨l, ks, d, rfl, _⟩ := h
    rfl
  · obtain ⟨l, ks, d, rfl, hl, hq, ht, h64, KQ⟩ := h
    have hu : (A.deeper (envOfC "_law_unlike" (defScope sUnlike) s.heap.objs.size f cdv)).units + 64 < cLine := by
      have := hr.un
      omega
    refine ⟨_, pss_cons (ps_set (i := 1) scU.nd rfl (.inl rfl) (pe_lst pa_nil))
      (pss_cons (ps_for PassesOwn.never rfl (pi_list (pe_callB (cr_sortX rfl) (by rfl) ms (by decide +kernel) (pa_cons (pv 0) pa_nil))) (pg_name (i := 2) scU.nd rfl (.inl rfl))
        (pss_one (ps_if (PW.pt (pw_or (pt_cmpR (op_eqD hu) (pv 1) (pe_lst pa_nil) (by rfl)) (pw_or1 (pt_cmpR (op_neD hu) (pe_ix ix_list (pv 1) (pe_un un_neg pe_int) (fun _ _ => rfl)) (pv 2) (by rfl)))))
          (pss_one (ps_expr (pe_bm PySem.F.plainAttrs_list PySem.F.slot_list_append PySem.F.type_list_append mt_append (pv 1) (pa_cons (pv 2) pa_nil)))) pss_nil)))
      (pss_one (ps_ret (pv 1)))), ?_⟩
    refine seq_set ⟨Nat.zero_le _, fun D nD => ?_⟩
    have s0 : Same H (upd H D (.lst [])) := same_upd nD
    have e0 : (upd H D (.lst [])) D = some (.lst (refs [])) := upd_same
    generalize upd H D (.lst []) = H0 at s0 e0 ⊢
    refine ⟨_, rfl, l, ks, d, 128, rfl, .inr ⟨SqL.of (s0 _ _ hl), h64⟩, fun p hp => same_tup s0 (hq p hp), ht, fun L p pm ris _ np => ?_⟩
    have s1 : Same H0 (upd H0 p (.lst (refs L))) := same_upd np
    have e1 : (upd H0 p (.lst (refs L))) p = some (.lst (refs L)) := upd_same
    generalize upd H0 p (.lst (refs L)) = H1 at s1 e1 ⊢
    have s01 := s0.trans s1
    have qL : ∀ z ∈ L, SqT K H1 z.1 (z.2.map kV) := fun z hz => same_tup s01 (hq z (pm.mem_iff.mp hz))
    have tL : ∀ z ∈ L, TieK 128 d z.2 := fun z hz => ht z (pm.mem_iff.mp hz)
    refine ⟨p, rfl, ⟨_, SqL.of e1⟩, for_list (xs := refs L) (fun i σ J => ∃ y2 U, σ = [some (.ref l), some (.ref D), y2] ∧ J D = some (.lst (refs U)) ∧ (∀ z ∈ U, z ∈ L.take i) ∧ (∀ z ∈ L.take i, z.2 ∈ U.map (·.2)) ∧ (U.map (ordOf 128)).Pairwise (· < ·) ∧ (∀ c o, c ≠ D → H1 c = some o → J c = some o)) ⟨_, [], rfl, s1 _ _ e0, (fun z hz => nomatch hz), (fun z hz => nomatch hz), List.Pairwise.nil, fun c o _ h => h⟩ ?_ ?_ ?_⟩
    · rintro i σ J _ ⟨y2, U, _, _, _, _, _, sm⟩
      exact SqL.of (sm _ _ (ne_of_none e0 np).symm e1)
    · rintro i v σ J hv ⟨y2, U, rfl, hD, u1, u2, u3, sm⟩
      have hik : i < L.length := by
        have := (List.getElem?_eq_some_iff.mp hv).1
        rwa [List.length_map] at this
      have gi : (refs L)[i]? = some (.ref L[i].1) := by
        rw [List.getElem?_map, List.getElem?_eq_getElem hik]
        rfl
      cases hv.symm.trans gi
      have hti : L.take (i + 1) = L.take i ++ [L[i]] := by
        rw [List.take_add_one, List.getElem?_eq_getElem hik]
        rfl
      have tU : ∀ z ∈ U, TieK 128 d z.2 := fun z hz => tL z (List.mem_of_mem_take (u1 z hz))
      have tx : TieK 128 d L[i].2 := tL _ (List.getElem_mem hik)
      have le : ∀ z ∈ U, ordOf 128 z ≤ ordOf 128 L[i] := fun z hz => by
        have r2 := ris
        rw [← List.take_append_drop i L] at r2
        refine (List.pairwise_append.mp r2).2.2 z (u1 z hz) L[i] ?_
        rw [List.drop_eq_getElem_cons hik]
        exact List.mem_cons_self ..
      have lU : U.length < 1000 := by
        have h1 : (U.map (·.2)).Nodup := (Srt.strict (ks := L.take i) u1 u2 u3).nd
        have h2 := (Srt.strict (ks := L.take i) u1 u2 u3).len
        rw [List.length_take] at h2
        have h3 := pm.length_eq
        omega
      refine ⟨_, rfl, Nat.zero_le _, fun e ne => ?_⟩
      have dDe : D ≠ e := ne_of_none hD ne
      have eD : (upd J e (.lst [])) D = some (.lst (refs U)) := by
        rw [upd_ne dDe]
        exact hD
      have ee : (upd J e (.lst [])) e = some (.lst []) := upd_same
      have se : Same J (upd J e (.lst [])) := same_upd ne
      generalize upd J e (.lst []) = J1 at eD ee se ⊢
      have qx : ∀ z ∈ L, SqT K J1 z.1 (z.2.map kV) := fun z hz => same_tup se (xt_tup' (fun c o hc h => sm c o hc h) (s1 _ _ e0) (qL z hz))
      have qU : ∀ z ∈ U, SqT K J1 z.1 (z.2.map kV) := fun z hz => qx z (List.mem_of_mem_take (u1 z hz))
      have sm1 : ∀ c o, c ≠ D → H1 c = some o → J1 c = some o := fun c o hc h => se _ _ (sm c o hc h)
      have add : (∀ z ∈ U, ordOf 128 z < ordOf 128 L[i]) → ∃ y2 U', [some (V.ref l), some (V.ref D), some (V.ref L[i].1)] = [some (V.ref l), some (V.ref D), y2] ∧ (upd J1 D (.lst (refs U ++ [.ref L[i].1]))) D = some (.lst (refs U')) ∧ (∀ z ∈ U', z ∈ L.take (i + 1)) ∧ (∀ z ∈ L.take (i + 1), z.2 ∈ U'.map (·.2)) ∧ (U'.map (ordOf 128)).Pairwise (· < ·) ∧ ∀ c o, c ≠ D → H1 c = some o → (upd J1 D (.lst (refs U ++ [.ref L[i].1]))) c = some o := fun hlt => by
        refine ⟨_, U ++ [L[i]], rfl, ?_, ?_, ?_, ?_, ?_⟩
        · rw [upd_same]
          show _ = some (HO.lst (List.map _ (U ++ [_])))
          rw [List.map_append]
          rfl
        · intro z hz
          rw [hti]
          rcases List.mem_append.mp hz with hz | hz
          · exact List.mem_append_left _ (u1 z hz)
          · exact List.mem_append_right _ hz
        · intro z hz
          rw [hti] at hz
          rw [List.map_append]
          rcases List.mem_append.mp hz with hz | hz
          · exact List.mem_append_left _ (u2 z hz)
          · rw [List.mem_singleton] at hz
            subst hz
            exact List.mem_append_right _ (List.mem_cons_self ..)
        · rw [List.map_append]
          refine List.pairwise_append.mpr ⟨u3, List.pairwise_singleton .., fun a ha b hb => ?_⟩
          obtain ⟨z, hz, rfl⟩ := List.mem_map.mp ha
          rw [List.map_cons, List.map_nil, List.mem_singleton] at hb
          subst hb
          exact hlt z hz
        · intro c o hc h
          rw [upd_ne hc]
          exact sm1 c o hc h
      refine ⟨lD U, .list [], dp_list (SqL.of eD) qU, .lst (SqL.of ee) .nil, shaped_list (fun z hz => (tU z hz).ok), by decide +kernel, _, rfl, ?_⟩
      rw [eqv_nil]
      rcases List.eq_nil_or_concat U with hU | ⟨U0, u, hU⟩
      · rw [decide_eq_true hU]
        refine iteT (iteT ?_)
        refine ⟨_, rfl, .inl ⟨rfl, _, SqL.of eD⟩, _, rfl, D, _, _, rfl, rfl, eD, small1000 (by rw [List.length_map]; omega), ?_⟩
        exact add (fun z hz => by rw [hU] at hz; cases hz)
      · rw [List.concat_eq_append] at hU
        have hne : U ≠ [] := by
          rw [hU]
          simp
        rw [decide_eq_false hne]
        refine iteF ?_
        have mu : u ∈ U := by
          rw [hU]
          exact List.mem_append_right _ (List.mem_cons_self ..)
        have la : atI (refs U) (-1) = some (.ref u.1) := by
          rw [hU]
          show atI (List.map _ (U0 ++ [u])) (-1) = _
          rw [List.map_append]
          exact atI_last _ _
        refine ⟨_, rfl, 1, rfl, D, _, _, _, rfl, rfl, SqL.of eD, la, _, rfl, tD u.2, tD L[i].2, dp_tie (qU u mu), dp_tie (qx _ (List.getElem_mem hik)), shaped_tie (tU u mu).ok, shaped_tie tx.ok, _, rfl, ?_⟩
        rw [eqv_tie]
        by_cases hk : u.2 = L[i].2
        · rw [decide_eq_true hk]
          refine iteF ?_
          refine ⟨_, U, rfl, eD, fun z hz => ?_, fun z hz => ?_, u3, sm1⟩
          · rw [hti]
            exact List.mem_append_left _ (u1 z hz)
          · rw [hti] at hz
            rcases List.mem_append.mp hz with hz | hz
            · exact u2 z hz
            · rw [List.mem_singleton] at hz
              subst hz
              exact List.mem_map.mpr ⟨u, mu, hk⟩
        · rw [decide_eq_false hk]
          refine iteT ?_
          refine ⟨_, rfl, .inl ⟨rfl, _, SqL.of eD⟩, _, rfl, D, _, _, rfl, rfl, eD, small1000 (by rw [List.length_map]; omega), ?_⟩
          refine add fun z hz => ?_
          have hlu : ordOf 128 u < ordOf 128 L[i] := by
            have h1 := le u mu
            have h2 : ordOf 128 u ≠ ordOf 128 L[i] := fun e => hk (ord_inj (tU u mu) tx e)
            omega
          have u3' := u3
          rw [hU, List.map_append] at u3'
          have hz' := hz
          rw [hU] at hz'
          rcases List.mem_append.mp hz' with h | h
          · have := (List.pairwise_append.mp u3').2.2 (ordOf 128 z) (List.mem_map.mpr ⟨z, h, rfl⟩) (ordOf 128 u) (List.mem_cons_self ..)
            omega
          · rw [List.mem_singleton] at h
            subst h
            exact hlu
    · rintro σ J ⟨y2, U, rfl, hD, u1, u2, u3, sm⟩
      rw [List.length_map, List.take_length] at u1 u2
      refine ⟨_, rfl, KQ D U J nD hD (Srt.strict (fun z hz => pm.mem_iff.mp (u1 z hz)) (fun z hz => u2 z (pm.mem_iff.mpr hz)) u3) ?_⟩
      intro c o hc
      exact sm c o (ne_of_none hc nD) (s01 _ _ hc)
end
end Wb
namespace Wb
open PySem PySem.Spec PyProof.Rows L2 RZ Sg
abbrev sWeb : Stmt := topS 29
/-- a web told as a tuple -/
structure MW (K : PySem.W.Frag) (H : Hp) (p : Addr) (n : Int) (a m : Addr) (As Ms : List TK) : Prop where
  tp : H p = some (.tup [.int n, .ref a, .ref m])
  ha : H a = some (.lst (refs As))
  hm : H m = some (.lst (refs Ms))
  qa : ∀ z ∈ As, SqT K H z.1 (z.2.map kV)
  qm : ∀ z ∈ Ms, SqT K H z.1 (z.2.map kV)
  ka : ∀ z ∈ As, AK n z.2
  km : ∀ z ∈ Ms, MK n z.2
  na : (As.map (·.2)).Nodup
  nm : (Ms.map (·.2)).Nodup
  ra : As.Pairwise fun p q => ordOf 128 p ≤ ordOf 128 q
  rm : Ms.Pairwise fun p q => ordOf 128 p ≤ ordOf 128 q
  la : As.length ≤ 60
  lm : Ms.length ≤ 60
  n0 : 0 ≤ n
  n1 : n ≤ 30
theorem MW.same {K : PySem.W.Frag} {H H' : Hp} {p a m : Addr} {n : Int} {As Ms : List TK} (s : Same H H') (h : MW K H p n a m As Ms) : MW K H' p n a m As Ms :=
  { h with tp := s _ _ h.tp, ha := s _ _ h.ha, hm := s _ _ h.hm, qa := fun z hz => same_tup s (h.qa z hz), qm := fun z hz => same_tup s (h.qm z hz) }
theorem bx_at {H : Hp} {b q : Addr} (B : Bx H b q) : ∃ xs, H b = some (.lst xs) := by
  obtain ⟨ns, i, r, k, hb, _⟩ := B
  exact ⟨_, hb⟩
theorem bx_same {H H' : Hp} {b q : Addr} (s : Same H H') (B : Bx H b q) : Bx H' b q := by
  obtain ⟨ns, i, r, k, hb, hq, h⟩ := B
  exact ⟨ns, i, r, k, s _ _ hb, s _ _ hq, h⟩
theorem bx_tup {K : PySem.W.Frag} {b q p : Addr} {H H' : Hp} {xs : List V} (B : Bx H b q) (s : Xt b H H') (h : SqT K H p xs) : SqT K H' p xs := by
  obtain ⟨ys, hb⟩ := bx_at B
  exact xt_tup' s hb h
theorem MW.xt {K : PySem.W.Frag} {H H' : Hp} {b q p a m : Addr} {n : Int} {As Ms : List TK} (B : Bx H b q) (s : Xt b H H') (h : MW K H p n a m As Ms) : MW K H' p n a m As Ms := by
  obtain ⟨ys, hb⟩ := bx_at B
  exact { h with tp := s _ _ (ne_of h.tp hb (fun z => nomatch z)) h.tp, ha := s _ _ (bx_nr B h.ha) h.ha, hm := s _ _ (bx_nr B h.hm) h.hm, qa := fun z hz => xt_tup' s hb (h.qa z hz), qm := fun z hz => xt_tup' s hb (h.qm z hz) }
theorem hue_cp {c : Str} (h : c ∈ (["a", "b", "c"] : List Str)) : ∃ k : Nat, c = ⟨#[k]⟩ ∧ (k = 97 ∨ k = 98 ∨ k = 99) := by
  simp only [List.mem_cons, List.not_mem_nil, or_false] at h
  rcases h with rfl | rfl | rfl
  · exact ⟨97, by decide +kernel, .inl rfl⟩
  · exact ⟨98, by decide +kernel, .inr (.inl rfl)⟩
  · exact ⟨99, by decide +kernel, .inr (.inr rfl)⟩
theorem sign_cp {c : Str} (h : c ∈ (["p", "q", "r"] : List Str)) : ∃ k : Nat, c = ⟨#[k]⟩ ∧ (k = 112 ∨ k = 113 ∨ k = 114) := by
  simp only [List.mem_cons, List.not_mem_nil, or_false] at h
  rcases h with rfl | rfl | rfl
  · exact ⟨112, by decide +kernel, .inl rfl⟩
  · exact ⟨113, by decide +kernel, .inr (.inl rfl)⟩
  · exact ⟨114, by decide +kernel, .inr (.inr rfl)⟩
theorem seq_ret {te : TE} {rest : TS} {D : Ends} {σ : L2.St} {H : Hp} (h : te σ H D.rt) : tSeq (tRet te) rest D σ H := h
/-- a list of ties, being drawn -/
def CL (K : PySem.W.Frag) (b q : Addr) (G : List Key → Prop) (H1 : Hp) (D : Addr) (i : Nat) (J : Hp) : Prop := ∃ ks : List TK, J D = some (.lst (refs ks)) ∧ ks.length = i ∧ (∀ z ∈ ks, SqT K J z.1 (z.2.map kV) ∧ G z.2) ∧ Bx J b q ∧ Xt b H1 J
theorem CL.new {K : PySem.W.Frag} {b q D : Addr} {G : List Key → Prop} {H1 : Hp} (B : Bx H1 b q) (nD : H1 D = none) : CL K b q G H1 D 0 (upd H1 D (.lst [])) :=
  ⟨[], upd_same, rfl, (fun z hz => nomatch hz), B.new nD, (Xt.refl b H1).new nD⟩
theorem CL.add {K : PySem.W.Frag} {b q D p : Addr} {G : List Key → Prop} {H1 J J' : Hp} {i : Nat} {k : List Key} (B : Bx H1 b q) (nD : H1 D = none) (h : CL K b q G H1 D i J) (hi : i < 1000) (B' : Bx J' b q) (x : Xt b J J') (hp : J' p = some (.tup (k.map kV))) (g : G k) :
    ∃ acc, J' D = some (.lst acc) ∧ acc.length < sizeLine ∧ CL K b q G H1 D (i + 1) (upd J' D (.lst (acc ++ [.ref p]))) := by
  obtain ⟨ks, hD, hl, hk, BJ, xJ⟩ := h
  have nb : D ≠ b := B.ne nD
  have hD' := x _ _ nb hD
  refine ⟨refs ks, hD', by rw [List.length_map]; exact small1000 (by omega), ks ++ [(p, k)], ?_, by rw [List.length_append, hl]; rfl, fun z hz => ?_, B'.upd nb (B.neq nD), fun c o hc ec => ?_⟩
  · rw [upd_same]
    show _ = some (HO.lst (List.map _ (ks ++ [_])))
    rw [List.map_append]
    rfl
  · rcases List.mem_append.mp hz with hz | hz
    · exact ⟨xt_tup' (Xt.refl D J').put hD' (bx_tup BJ x (hk z hz).1), (hk z hz).2⟩
    · rw [List.mem_singleton] at hz
      subst hz
      refine ⟨SqT.of ?_, g⟩
      rw [upd_ne (ne_of hp hD' (fun z => nomatch z))]
      exact hp
  · rw [upd_ne (ne_of_none ec nD)]
    exact x _ _ hc (xJ c o hc ec)
theorem CL.xt {K : PySem.W.Frag} {b q D : Addr} {G : List Key → Prop} {H1 J J' : Hp} {i : Nat} (h : CL K b q G H1 D i J) (nb : D ≠ b) (B' : Bx J' b q) (x : Xt b J J') : CL K b q G H1 D i J' := by
  obtain ⟨ks, hD, hl, hk, BJ, xJ⟩ := h
  exact ⟨ks, x _ _ nb hD, hl, fun z hz => ⟨bx_tup BJ x (hk z hz).1, (hk z hz).2⟩, B', xJ.trans x⟩
section
variable {P : Program} {w : World} {K : PySem.W.Frag} {mg : Str → Option Value} {base : Heap}
def spSign : Sp := fun vs H Q _ => ∃ b q, vs = [.ref b] ∧ Bx H b q ∧ ∀ (c : Str) H', c ∈ (["p", "q", "r"] : List Str) → Bx H' b q → Xt b H H' → Q (.str c) H'
theorem scSg : FnScope ["_law_box_here"] ["_law_box_here"] (defScope sSign) := ⟨rfl, rfl, rfl, by decide +kernel, rfl, by decide +kernel, by decide +kernel⟩
theorem ok_sign {f fO : Addr} {fd fdO : FuncData} (F : Fun K "_law_sign" "_law_sign" sSign f fd) (O : Df P w K mg base 2 "_law_one" ["_law_box_here", "_law_some"] (spOne K) fO fdO) : FnOk P w K mg base CX0 3 f fd ["_law_box_here"] spSign := by
  refine F.ok scSg (fun vs H Q E h => ?_) (fun cdv A outer s H vs Q E hr h => ?_)
  · obtain ⟨b, q, rfl, _⟩ := h
    rfl
  · obtain ⟨b, q, rfl, B, K1⟩ := h
    refine ⟨_, pss_one (ps_ret (pe_call O.ok hr (by rfl) O.gl O.kp O.bd .nil pass0 (pa_cons (pv 0) (pa_cons (pe_lst (pa_cons pe_str (pa_cons pe_str (pa_cons pe_str (pa_cons pe_str pa_nil))))) pa_nil)))), ?_⟩
    refine ⟨_, rfl, by show 4 ≤ sizeLine; decide, fun p np => ?_⟩
    refine .inl ⟨b, q, p, _, rfl, B.new np, SqL.of upd_same, B.ne np, by simp, by show 4 ≤ 1000; decide, fun v H' hv B' kp => ?_⟩
    obtain ⟨c, rfl, hc⟩ : ∃ c : Str, v = .str c ∧ c ∈ (["p", "q", "r"] : List Str) := by
      simp only [List.mem_cons, List.not_mem_nil, or_false] at hv
      rcases hv with rfl | rfl | rfl | rfl
      all_goals exact ⟨_, rfl, by simp⟩
    exact K1 c H' hc B' (((Xt.refl b H).new np).trans kp.xt)
/-! ### a web drawn -/
def spWeb (K : PySem.W.Frag) : Sp := fun vs H Q _ => ∃ b q lo hi, vs = [.ref b, .int lo, .int hi] ∧ Bx H b q ∧ 0 ≤ lo ∧ lo ≤ hi ∧ hi ≤ 30 ∧ ∀ p n a m As Ms H', lo ≤ n → n ≤ hi → MW K H' p n a m As Ms → Bx H' b q → Xt b H H' → Q (.ref p) H'
abbrev NW : List Str := ["_law_box_here", "_law_low", "_law_high", "_law_many", "_law_crowd", "_law_my_arrows", "_law_my_marks", "_law_k"]
theorem scW : FnScope NW ["_law_box_here", "_law_low", "_law_high"] (defScope sWeb) := ⟨rfl, rfl, rfl, by decide +kernel, rfl, by decide +kernel, by decide +kernel⟩
set_option maxHeartbeats 4000000 in
theorem ok_web {f fT fO fS fA fU : Addr} {fd dT dO dS dA dU : FuncData} (F : Fun K "_law_web" "_law_web" sWeb f fd) (mr : mg "range" = none) (T : Df P w K mg base 1 "_law_take" ["_law_box_here", "_law_many"] spTake fT dT)
    (O : Df P w K mg base 2 "_law_one" ["_law_box_here", "_law_some"] (spOne K) fO dO) (G : Df P w K mg base 3 "_law_sign" ["_law_box_here"] spSign fS dS) (R : Df P w K mg base 4 "_law_arrow" ["_law_box_here", "_law_many"] spArrow fA dA)
    (U : Df P w K mg base 1 "_law_unlike" ["_law_some"] (spUnl K) fU dU) : FnOk P w K mg base CX0 5 f fd ["_law_box_here", "_law_low", "_law_high"] (spWeb K) := by
  refine F.ok scW (fun vs H Q E h => ?_) (fun cdv A outer s H vs Q E hr h => ?_)
  · obtain ⟨b, q, lo, hi, rfl, _⟩ := h
    rfl
  · obtain ⟨b, q, lo, hi, rfl, B, l0, l1, l2, KQ⟩ := h
    refine ⟨_, pss_cons (ps_set (i := 3) scW.nd rfl (.inr rfl) (pe_op op_add (pv 1) (pe_call T.ok (hr.mono (by decide)) (by rfl) T.gl T.kp T.bd .nil pass0 (pa_cons (pv 0) (pa_cons (pe_op op_add (pe_op op_sub (pv 2) (pv 1)) pe_int) pa_nil)))))
      (pss_cons (ps_if (pt_cmpR op_eq (pv 3) pe_int (nomark _)) (pss_one (ps_ret (pe_tup (pa_cons pe_int (pa_cons (pe_lst pa_nil) (pa_cons (pe_lst pa_nil) pa_nil)))))) pss_nil)
      (pss_cons (ps_set (i := 4) scW.nd rfl (.inl rfl) (pe_call O.ok (hr.mono (by decide)) (by rfl) O.gl O.kp O.bd .nil pass0 (pa_cons (pv 0) (pa_cons (pe_lst (pa_cons (pv 3) (pa_cons (pv 3) (pa_cons (pe_op op_mul pe_int (pv 3)) (pa_cons pe_int pa_nil))))) pa_nil))))
      (pss_cons (ps_setLc (i := 5) (own := [("_law_k", 7)]) (g := gName 7) (tt := tYes) rfl scW.nd rfl rfl (sw_true rfl rfl rfl (by decide +kernel)) (pi_range1 (by rfl) mr (pa_cons (pe_call T.ok (hr.mono (by decide)) (by rfl) T.gl T.kp T.bd .nil pass0 (pa_cons (pv 0) (pa_cons (pe_op op_add (pv 4) pe_int) pa_nil))) pa_nil)) (blkOk_by (N := NW) (sc := defScope sWeb) (by decide +kernel))
        (fun _ _ _ _ _ => pg_name (i := 7) scW.nd rfl (Or.inl rfl)) (fun _ _ _ _ _ => pts_nil) (fun _ _ _ _ _ => pe_call R.ok hr (by rfl) R.gl R.kp R.bd .nil pass0 (pa_cons (pv 0) (pa_cons (pv 3) pa_nil))))
      (pss_cons (ps_setLc (i := 6) (own := [("_law_k", 7)]) (g := gName 7) (tt := tYes) rfl scW.nd rfl rfl (sw_true rfl rfl rfl (by decide +kernel)) (pi_range1 (by rfl) mr (pa_cons (pe_call O.ok (hr.mono (by decide)) (by rfl) O.gl O.kp O.bd .nil pass0 (pa_cons (pv 0) (pa_cons (pe_lst (pa_cons pe_int (pa_cons pe_int (pa_cons pe_int (pa_cons pe_int (pa_cons (pv 3) pa_nil)))))) pa_nil))) pa_nil)) (blkOk_by (N := NW) (sc := defScope sWeb) (by decide +kernel))
        (fun _ _ _ _ _ => pg_name (i := 7) scW.nd rfl (Or.inl rfl)) (fun _ _ _ _ _ => pts_nil) (fun _ _ _ _ _ => pe_tup (pa_cons (pe_call G.ok (hr.mono (by decide)) (by rfl) G.gl G.kp G.bd .nil pass0 (pa_cons (pv 0) pa_nil)) (pa_cons (pe_call T.ok (hr.mono (by decide)) (by rfl) T.gl T.kp T.bd .nil pass0 (pa_cons (pv 0) (pa_cons (pv 3) pa_nil))) pa_nil))))
      (pss_one (ps_ret (pe_tup (pa_cons (pv 3) (pa_cons (pe_call U.ok (hr.mono (by decide)) (by rfl) U.gl U.kp U.bd .nil pass0 (pa_cons (pv 5) pa_nil)) (pa_cons (pe_call U.ok (hr.mono (by decide)) (by rfl) U.gl U.kp U.bd .nil pass0 (pa_cons (pv 6) pa_nil)) pa_nil)))))))))), ?_⟩
    refine seq_set ⟨_, rfl, _, rfl, _, rfl, _, rfl, _, _, rfl, rfl, _, _, rfl, rfl, b, q, _, rfl, B, by omega, by omega, fun z H1 z0 z1 B1 k1 => ⟨lo, z, rfl, rfl, ?_⟩⟩
    have hn0 : 0 ≤ lo + z := by omega
    have hn1 : lo + z ≤ hi := by omega
    have hlo : lo ≤ lo + z := by omega
    dsimp only
    generalize lo + z = n at hn0 hn1 hlo ⊢
    have x1 := k1.xt
    clear k1 z0 z1
    refine seq_if ⟨_, rfl, rfl, _, rfl, ?_⟩
    by_cases hz : n = 0
    · subst hz
      rw [decide_eq_true rfl]
      refine iteT (seq_ret ?_)
      refine ⟨Nat.zero_le _, fun a na => ⟨Nat.zero_le _, fun m nm => ⟨by show 3 ≤ sizeLine; decide, fun p np => ?_⟩⟩⟩
      have s1 : Same (upd H1 a (.lst [])) (upd (upd H1 a (.lst [])) m (.lst [])) := same_upd nm
      have s2 := same_upd (o := .tup [.int 0, .ref a, .ref m]) np
      exact KQ p 0 a m [] [] _ hlo hn1 ⟨upd_same, s2 _ _ (s1 _ _ upd_same), s2 _ _ upd_same, (fun z hz => nomatch hz), (fun z hz => nomatch hz), (fun z hz => nomatch hz), (fun z hz => nomatch hz), List.Pairwise.nil, List.Pairwise.nil, List.Pairwise.nil, List.Pairwise.nil, Nat.zero_le _, Nat.zero_le _, by omega, by omega⟩ (((B1.new na).new nm).new np) (((x1.new na).new nm).new np)
    · rw [decide_eq_false (fun z => hz (V.int.inj z))]
      refine iteF (seq_next ?_)
      have np0 : 0 < n := by omega
      refine seq_set ⟨_, rfl, _, rfl, _, rfl, _, rfl, 2, n, rfl, rfl, .inl ⟨by decide, by decide⟩, by show 4 ≤ sizeLine; decide, fun p np => .inl ⟨b, q, p, _, rfl, B1.new np, SqL.of upd_same, B1.ne np, by simp, by show 4 ≤ 1000; decide, fun v H2 hv B2 k2 => ?_⟩⟩
      obtain ⟨cr, rfl, c0, c1⟩ : ∃ c : Int, v = .int c ∧ 0 ≤ c ∧ c ≤ 60 := by
        simp only [List.mem_cons, List.not_mem_nil, or_false] at hv
        rcases hv with rfl | rfl | rfl | rfl
        all_goals exact ⟨_, rfl, by omega, by omega⟩
      have x2 := (x1.new (o := .lst [.int n, .int n, .int (2 * n), .int 3]) np).trans k2.xt
      clear k2 hv
      refine seq_set ⟨_, rfl, _, rfl, _, _, rfl, rfl, b, q, _, rfl, B2, by omega, by omega, fun t H3 t0 t1 B3 k3 => ⟨t, rfl, by omega, by omega, fun D nD => ?_⟩⟩
      have x3 := x2.trans k3.xt
      have Db : D ≠ b := B3.ne nD
      clear x2 k3 B2
      refine lc_range (lo := 0) (n := t.toNat) (CL K b q (AK n) H3 D) (CL.new B3 nD) ?_ ?_
      · rintro i J hi h
        refine ⟨rfl, ?_⟩
        dsimp only [tYes]
        refine iteT ?_
        have hh := h
        obtain ⟨_, _, _, _, BJ, _⟩ := hh
        refine ⟨_, rfl, _, rfl, b, q, n, rfl, BJ, np0, by omega, fun p c x y J' fp pb hp hc x0 x1 y0 y1 B' xt => ?_⟩
        obtain ⟨k, rfl, hk⟩ := hue_cp hc
        exact h.add B3 nD (by omega) B' xt (k := [.inr ⟨#[k]⟩, .inl x, .inl y]) hp ⟨k, x, y, rfl, hk, x0, x1, y0, y1⟩
      · intro J4 cA
        obtain ⟨_, _, _, _, B4, x4⟩ := id cA
        refine ⟨_, rfl, _, rfl, by show 5 ≤ sizeLine; decide, fun p np => .inl ⟨b, q, p, _, rfl, B4.new np, SqL.of upd_same, B4.ne np, by simp, by show 5 ≤ 1000; decide, fun v J5 hv B5 k5 => ?_⟩⟩
        obtain ⟨mm, rfl, m0, m1⟩ : ∃ c : Int, v = .int c ∧ 0 ≤ c ∧ c ≤ 60 := by
          simp only [List.mem_cons, List.not_mem_nil, or_false] at hv
          rcases hv with rfl | rfl | rfl | rfl | rfl
          all_goals exact ⟨_, rfl, by omega, by omega⟩
        have cA5 := cA.xt Db B5 (((Xt.refl b J4).new np).trans k5.xt)
        clear cA k5 hv
        refine ⟨mm, rfl, by omega, by omega, fun D2 nD2 => ?_⟩
        have Db2 : D2 ≠ b := B5.ne nD2
        refine lc_range (lo := 0) (n := mm.toNat) (CL K b q (MK n) J5 D2) (CL.new B5 nD2) ?_ ?_
        · rintro i J hi h
          refine ⟨rfl, ?_⟩
          dsimp only [tYes]
          refine iteT ?_
          obtain ⟨_, _, _, _, BJ, _⟩ := id h
          refine ⟨_, rfl, b, q, rfl, BJ, fun c J1 hc B1 y1 => ?_⟩
          refine ⟨_, rfl, _, rfl, b, q, n, rfl, B1, np0, by omega, fun x J2 x0 x1 B2 k2 => ?_⟩
          refine ⟨by show 2 ≤ sizeLine; decide, fun p np => ?_⟩
          obtain ⟨k, rfl, hk⟩ := sign_cp hc
          exact h.add B5 nD2 (by omega) (B2.new np) ((y1.trans k2.xt).new np) (k := [.inr ⟨#[k]⟩, .inl x]) upd_same ⟨k, x, rfl, hk, x0, x1⟩
        · intro J6 cM
          obtain ⟨_, _, _, _, B6, x6⟩ := id cM
          obtain ⟨ka, hA, lA, gA, _, xA⟩ := cA5.xt Db B6 x6
          obtain ⟨km, hM, lM, gM, _, _⟩ := cM
          have tA : ∀ z ∈ ka, TieK 128 3 z.2 := fun z hz => (gA z hz).2.tie (by omega)
          have tM : ∀ z ∈ km, TieK 128 2 z.2 := fun z hz => (gM z hz).2.tie (by omega)
          refine ⟨_, rfl, _, rfl, D, ka, 3, rfl, hA, fun z hz => (gA z hz).1, tA, by omega, fun a As J7 na ha sA s7 => ?_⟩
          refine ⟨_, rfl, D2, km, 2, rfl, s7 _ _ hM, fun z hz => same_tup s7 (gM z hz).1, tM, by omega, fun m Ms J8 nm hm sM s8 => ?_⟩
          refine ⟨by show 3 ≤ sizeLine; decide, fun p np => ?_⟩
          have s9 := same_upd (o := .tup [.int n, .ref a, .ref m]) np
          have s69 := (s7.trans s8).trans s9
          refine KQ p n a m As Ms _ hlo hn1 ⟨upd_same, s9 _ _ (s8 _ _ ha), s9 _ _ hm, fun z hz => same_tup s69 (gA z (sA.of z hz)).1, fun z hz => same_tup s69 (gM z (sM.of z hz)).1, fun z hz => (gA z (sA.of z hz)).2, fun z hz => (gM z (sM.of z hz)).2, sA.nd, sM.nd, sA.ris, sM.ris, ?_, ?_, by omega, by omega⟩ (bx_same s69 B6) ((x3.trans xA).trans (Same.xt s69))
          · have := sA.len
            omega
          · have := sM.len
            omega
end
end Wb
namespace Wb
open PySem PySem.Spec PyProof.Rows L2 RZ Sg
/-- what callers hold of a method of no arguments -/
structure Mf (P : Program) (w : World) (K : PySem.W.Frag) (mg : Str → Option Value) (base : Heap) (k : Nat) (C : Addr) (m : Str) (sp : Sp) (f : Addr) (fd : FuncData) : Prop where
  ok : FnOk P w K mg base CX0 k f fd ["self"] sp
  mt : Meth K C m f
  bd : Binds K fd ["self"] []
section
variable {P : Program} {w : World} {K : PySem.W.Frag} {mg : Str → Option Value} {base : Heap}
/-! ### making a web, with its names in any order -/
abbrev psI : List Str := ["self", "points", "arrows", "marks"]
def g1 {α : Type} (us _mv ws : List α) : List α := match us, ws with | [s, p], [m, a] => [s, p, a, m] | _, _ => []
def g2 {α : Type} (us _mv ws : List α) : List α := match us, ws with | [s, p], [a, m] => [s, p, a, m] | _, _ => []
def g3 {α : Type} (us mv ws : List α) : List α := match us, mv, ws with | [s], [a, m], [p] => [s, p, a, m] | _, _, _ => []
def g4 {α : Type} (us mv ws : List α) : List α := match us, mv, ws with | [s, p], [a], [m] => [s, p, a, m] | _, _, _ => []
theorem vals1 {vs : List V} {u : Value} {us : List Value} (h : Vals vs (u :: us)) : ∃ v vs', vs = v :: vs' ∧ RelV v u ∧ Vals vs' us := by
  cases h with
  | cons a b => exact ⟨_, _, rfl, a, b⟩
theorem vals0 {vs : List V} (h : Vals vs []) : vs = [] := by
  cases h
  rfl
theorem kb1 {f : Addr} {fd : FuncData} {kws : List (Str × V)} (F : FunD K "__init__" "Web.__init__" (defArgs sInit) (defBody sInit) (defScope sInit) [] kws f fd) (hk : kws ≠ []) : ∃ mv : List Value, KBn K fd psI 2 ["marks", "arrows"] (fun us ws => g1 us mv ws) (fun vs zs => g1 vs [] zs) := by
  refine F.kbinds0 2 ["marks", "arrows"] [] g1 hk (fun q h => nomatch h) ?_ ?_
  · intro vs mz zs us mv ws h1 h2 h3
    cases h1 with
    | nil => exact .nil
    | cons a0 ta0 =>
      cases ta0 with
      | nil => exact .nil
      | cons a1 ta1 =>
        cases ta1 with
        | cons _ _ => exact .nil
        | nil =>
          cases h3 with
          | nil => exact .nil
          | cons b0 tb0 =>
            cases tb0 with
            | nil => exact .nil
            | cons b1 tb1 =>
              cases tb1 with
              | cons _ _ => exact .nil
              | nil =>
                exact .cons a0 (.cons a1 (.cons b1 (.cons b0 .nil)))
  · intro D doc pm an cdv ct us mv ws l1 l2 l3
    match us, mv, ws, l1, l2, l3 with
    | [s, p], [], [m, a], _, _, _ => exact rfl
theorem kb2 {f : Addr} {fd : FuncData} {kws : List (Str × V)} (F : FunD K "__init__" "Web.__init__" (defArgs sInit) (defBody sInit) (defScope sInit) [] kws f fd) (hk : kws ≠ []) : ∃ mv : List Value, KBn K fd psI 2 ["arrows", "marks"] (fun us ws => g2 us mv ws) (fun vs zs => g2 vs [] zs) := by
  refine F.kbinds0 2 ["arrows", "marks"] [] g2 hk (fun q h => nomatch h) ?_ ?_
  · intro vs mz zs us mv ws h1 h2 h3
    cases h1 with
    | nil => exact .nil
    | cons a0 ta0 =>
      cases ta0 with
      | nil => exact .nil
      | cons a1 ta1 =>
        cases ta1 with
        | cons _ _ => exact .nil
        | nil =>
          cases h3 with
          | nil => exact .nil
          | cons b0 tb0 =>
            cases tb0 with
            | nil => exact .nil
            | cons b1 tb1 =>
              cases tb1 with
              | cons _ _ => exact .nil
              | nil =>
                exact .cons a0 (.cons a1 (.cons b0 (.cons b1 .nil)))
  · intro D doc pm an cdv ct us mv ws l1 l2 l3
    match us, mv, ws, l1, l2, l3 with
    | [s, p], [], [a, m], _, _, _ => exact rfl
theorem kb3 {f : Addr} {fd : FuncData} {ta tm : Addr} (F : FunD K "__init__" "Web.__init__" (defArgs sInit) (defBody sInit) (defScope sInit) [] [("arrows", .ref ta), ("marks", .ref tm)] f fd) : ∃ mv : List Value, KBn K fd psI 1 ["points"] (fun us ws => g3 us mv ws) (fun vs zs => g3 vs [.ref ta, .ref tm] zs) := by
  refine F.kbinds0 1 ["points"] [("arrows", .ref ta), ("marks", .ref tm)] g3 (fun z => nomatch z) (fun q h => h) ?_ ?_
  · intro vs mz zs us mv ws h1 h2 h3
    cases h1 with
    | nil => exact .nil
    | cons a0 ta0 =>
      cases ta0 with
      | cons _ _ => exact .nil
      | nil =>
        cases h2 with
        | nil => exact .nil
        | cons c0 tc0 =>
          cases tc0 with
          | nil => exact .nil
          | cons c1 tc1 =>
            cases tc1 with
            | cons _ _ => exact .nil
            | nil =>
              cases h3 with
              | nil => exact .nil
              | cons b0 tb0 =>
                cases tb0 with
                | cons _ _ => exact .nil
                | nil =>
                  exact .cons a0 (.cons b0 (.cons c0 (.cons c1 .nil)))
  · intro D doc pm an cdv ct us mv ws l1 l2 l3
    match us, mv, ws, l1, l2, l3 with
    | [s], [a, m], [p], _, _, _ => exact ⟨_, _, _, _, _, _, rfl, rfl, _, _, _, _, _, _, rfl, rfl, rfl⟩
theorem kb4 {f : Addr} {fd : FuncData} {ta tm : Addr} (F : FunD K "__init__" "Web.__init__" (defArgs sInit) (defBody sInit) (defScope sInit) [] [("arrows", .ref ta), ("marks", .ref tm)] f fd) : ∃ mv : List Value, KBn K fd psI 2 ["marks"] (fun us ws => g4 us mv ws) (fun vs zs => g4 vs [.ref ta] zs) := by
  refine F.kbinds0 2 ["marks"] [("arrows", .ref ta)] g4 (fun z => nomatch z) (fun q h => List.mem_cons.mpr (.inl (List.mem_singleton.mp h))) ?_ ?_
  · intro vs mz zs us mv ws h1 h2 h3
    cases h1 with
    | nil => exact .nil
    | cons a0 ta0 =>
      cases ta0 with
      | nil => exact .nil
      | cons a1 ta1 =>
        cases ta1 with
        | cons _ _ => exact .nil
        | nil =>
          cases h2 with
          | nil => exact .nil
          | cons c0 tc0 =>
            cases tc0 with
            | cons _ _ => exact .nil
            | nil =>
              cases h3 with
              | nil => exact .nil
              | cons b0 tb0 =>
                cases tb0 with
                | cons _ _ => exact .nil
                | nil =>
                  exact .cons a0 (.cons a1 (.cons c0 (.cons b0 .nil)))
  · intro D doc pm an cdv ct us mv ws l1 l2 l3
    match us, mv, ws, l1, l2, l3 with
    | [s, p], [a], [m], _, _, _ => exact ⟨_, _, _, _, _, _, rfl, rfl, rfl⟩
end
end Wb
namespace Wb
open PySem PySem.Spec PyProof.Rows L2 RZ Sg
theorem cut_to {xs : List V} (k : Nat) : cutV xs none (some (k : Int)) = xs.take k := by
  unfold cutV
  rw [HT.sIx_none, show HT.sIx xs.length xs.length (some ((k : Nat) : Int)) = min k xs.length from HT.sIx_nat xs.length xs.length k, List.drop_zero, Nat.sub_zero]
  by_cases h : k ≤ xs.length
  · rw [Nat.min_eq_left h]
  · rw [Nat.min_eq_right (by omega), List.take_length, List.take_of_length_le (by omega)]
theorem sv_keys {K : PySem.W.Frag} {H : Hp} : ∀ k : List Key, Paired (Sv K H 0) (k.map kV) (k.map kV)
  | [] => .nil
  | k :: ks => .cons (by cases k <;> exact ⟨rfl, rfl⟩) (sv_keys ks)
theorem sv_tie {K : PySem.W.Frag} {H : Hp} {a b : Addr} {k : List Key} (hk : k.length ≤ 1000) (h1 : SqT K H a (k.map kV)) (h2 : SqT K H b (k.map kV)) : Sv K H 1 (.ref a) (.ref b) :=
  .inr ⟨a, b, _, _, rfl, rfl, .inr ⟨h1, h2⟩, by rw [List.length_map]; omega, sv_keys k⟩
theorem sv_refs {K : PySem.W.Frag} {H : Hp} : ∀ {U V : List TK}, U.map (·.2) = V.map (·.2) → (∀ z ∈ U, SqT K H z.1 (z.2.map kV)) → (∀ z ∈ V, SqT K H z.1 (z.2.map kV)) → (∀ z ∈ V, z.2.length ≤ 1000) → Paired (Sv K H 1) (refs U) (refs V)
  | [], [], _, _, _, _ => .nil
  | [], _ :: _, h, _, _, _ => by cases h
  | _ :: _, [], h, _, _, _ => by cases h
  | p :: U, q :: V, h, h1, h2, h3 => by
    rw [List.map_cons, List.map_cons] at h
    injection h with ha hb
    refine .cons (sv_tie (k := q.2) (h3 q (List.mem_cons_self ..)) ?_ (h2 q (List.mem_cons_self ..))) (sv_refs hb (fun z hz => h1 z (List.mem_cons_of_mem _ hz)) (fun z hz => h2 z (List.mem_cons_of_mem _ hz)) fun z hz => h3 z (List.mem_cons_of_mem _ hz))
    have := h1 p (List.mem_cons_self ..)
    rw [show p.2 = q.2 from ha] at this
    exact this
theorem srt_eq {d : Nat} {ks U V : List TK} (s : Srt ks U) (h : ∀ k, k ∈ ks.map (·.2) ↔ k ∈ V.map (·.2)) (t1 : ∀ p ∈ ks, TieK 128 d p.2) (t2 : ∀ p ∈ V, TieK 128 d p.2) (nd : (V.map (·.2)).Nodup) (ris : V.Pairwise fun p q => ordOf 128 p ≤ ordOf 128 q) : U.map (·.2) = V.map (·.2) := by
  refine same_keys (fun p hp => t1 p (s.of p hp)) t2 s.nd nd s.ris ris fun k => ⟨fun hk => ?_, fun hk => ?_⟩
  · obtain ⟨p, hp, rfl⟩ := List.mem_map.mp hk
    exact (h _).mp (List.mem_map.mpr ⟨p, s.of p hp, rfl⟩)
  · obtain ⟨p, hp, e⟩ := List.mem_map.mp ((h k).mpr hk)
    rw [← e]
    exact s.all p hp
/-- the told tuple is the tuple drawn -/
theorem sv_told {K : PySem.W.Frag} {H : Hp} {tp ta tm p a m : Addr} {n : Int} {As Ms Us Vs : List TK} (h1 : H tp = some (.tup [.int n, .ref ta, .ref tm])) (h2 : H ta = some (.lst (refs Us))) (h3 : H tm = some (.lst (refs Vs))) (W : MW K H p n a m As Ms)
    (e1 : Us.map (·.2) = As.map (·.2)) (e2 : Vs.map (·.2) = Ms.map (·.2)) (q1 : ∀ z ∈ Us, SqT K H z.1 (z.2.map kV)) (q2 : ∀ z ∈ Vs, SqT K H z.1 (z.2.map kV)) : Sv K H 3 (.ref tp) (.ref p) := by
  have l1 : Us.length = As.length := by
    have := congrArg List.length e1
    rwa [List.length_map, List.length_map] at this
  have l2 : Vs.length = Ms.length := by
    have := congrArg List.length e2
    rwa [List.length_map, List.length_map] at this
  have w1 := W.la
  have w2 := W.lm
  refine .inr ⟨tp, p, _, _, rfl, rfl, .inr ⟨SqT.of h1, SqT.of W.tp⟩, by show 3 ≤ 100000; decide, .cons (.inl ⟨rfl, rfl⟩) (.cons (.inr ⟨ta, a, _, _, rfl, rfl, .inl ⟨SqL.of h2, SqL.of W.ha⟩, by rw [List.length_map]; omega, sv_refs e1 q1 W.qa fun z hz => ?_⟩) (.cons (.inr ⟨tm, m, _, _, rfl, rfl, .inl ⟨SqL.of h3, SqL.of W.hm⟩, by rw [List.length_map]; omega, sv_refs e2 q2 W.qm fun z hz => ?_⟩) .nil))⟩
  · have n1 := W.n1
    rw [((W.ka z hz).tie (by omega)).len]
    decide
  · have n1 := W.n1
    rw [((W.km z hz).tie (by omega)).len]
    decide
section
variable {P : Program} {w : World} {K : PySem.W.Frag} {mg : Str → Option Value} {base : Heap}
theorem mk_use {C x dx la lm : Addr} {J : Hp} {ka km : List TK} {n : Int} {Q : Hp → Prop} {E : XK} (nx : J x = none) (ndx : J dx = none) (ne : dx ≠ x) (n0 : 0 ≤ n) (n1 : n ≤ 81) (ta : TL K J la ka) (ga : ∀ p ∈ ka, AK n p.2) (l64 : ka.length < 64) (tm : TL K J lm km) (gm : ∀ p ∈ km, MK n p.2) (m64 : km.length < 64)
    (q : ∀ J' As Ms, (∀ J'', (∀ c o, J c = none → J' c = some o → J'' c = some o) → WebAt C J'' x n As Ms) → Srt ka As → Srt km Ms → Same J J' → Q J') : spInit K C [.ref x, .int n, .ref la, .ref lm] (upd (upd J dx (.own x)) x (.ins C dx [])) (fun v H3 => v = .non ∧ Q H3) E := by
  have s1 : Same J (upd J dx (.own x)) := same_upd ndx
  have nx1 : (upd J dx (.own x)) x = none := by
    rw [upd_ne ne.symm]
    exact nx
  have s2 : Same (upd J dx (.own x)) (upd (upd J dx (.own x)) x (.ins C dx [])) := same_upd nx1
  have s := s1.trans s2
  refine ⟨x, dx, n, la, lm, ka, km, rfl, upd_same, n0, n1, ta.same s, ga, l64, tm.same s, gm, m64, fun J' As Ms W sA sM xt => ⟨rfl, q J' As Ms (fun J'' kp => W J'' fun c o hc e => kp c o ?_ e) sA sM fun c o hc => ?_⟩⟩
  · rcases hc with hc | rfl
    · exact s.free hc
    · exact nx
  exact xt c o (ne_of_none hc nx) (s c o hc)
end
end Wb
namespace Tm
open PySem PySem.Spec PyProof.Rows L2
/-! ### several clauses, each of one or more classes, each with a name -/
theorem flyZ_keeps {base h h' : Heap} {l : List Env} {e : Addr} {Z : Obj → Prop} (x : HandSPX.FlyingZ base l e Z h) (k : ∀ b o, h.get? b = some o → h'.get? b = some o) : HandSPX.FlyingZ base l e Z h' := by
  obtain ⟨f1, f2, f3, oe, vs, T, oT, ts, he, hz, hd, h1, hn, hne, hT, hdT, h3⟩ := x
  exact ⟨fun b o q => k b o (f1 b o q), f2, f3.of_keeps fun b o q _ => ⟨o, k b o q, rfl⟩, oe, vs, T, oT, ts, k _ _ he, hz, hd, h1, hn, hne, k _ _ hT, hdT, h3⟩
/-- the clause's classes are told by t -/
def TestOk (X : Cx) (t : Expr) (cs : List Value) : Prop := ∀ (a : Addr) (pn : List (Addr × Obj)) (s : Shared) (σ : L2.St) (H : Hp) (cls : Value) (b : Bool) (Q : Bool → Shared → Prop) (E : Value → Shared → Prop), Inv (X.suite a pn) [] σ H s → PySem.W.Looks (model X.prog X.w) s.heap (typeOf (.ref a)) cls → PySem.W.exmAny X.K cls cs = some b →
  (∀ h', (∀ q o, s.heap.get? q = some o → h'.get? q = some o) → Q b { s with heap := h' }) →
  wpAny (model X.prog X.w) (X.A.mark (some (.ref a))) (eval t X.env) (fun c s1 => wpAny (model X.prog X.w) (X.A.mark (some (.ref a))) (excMatches (.ref a) c) Q E s1) E s
section
variable {X : Cx}
theorem name_ok {x : Str} {c : Value} {np : Pos} {a : Addr} {pn : List (Addr × Obj)} {s : Shared} {σ : L2.St} {H : Hp} {Q : Value → Shared → Prop} {E : Value → Shared → Prop} (hc : Names X x c) (I : Inv (X.suite a pn) [] σ H s) (q : Q c s) : wpAny (model X.prog X.w) (X.A.mark (some (.ref a))) (eval (.Name x np) X.env) Q E s := by
  obtain ⟨hg, hdbg, hm | ⟨hm, hv, hnn⟩⟩ := hc
  · exact ld_glob (X := X.suite a pn) I hg hm q hdbg
  · exact ld_blt (X := X.suite a pn) I hg hm hv q hnn hdbg
theorem test_one {x : Str} {c : Value} {np : Pos} (hc : Names X x c) : TestOk X (.Name x np) [c] := fun a pn s σ H cls b Q E I LT hx q => by
  obtain ⟨b1, d1, x1, y1, z1⟩ := PySem.W.exmAny_cons hx
  have y2 : some false = some d1 := y1
  cases y2
  rw [Bool.or_false] at z1
  subst z1
  exact name_ok hc I ((PySem.W.exm_one I.kIn LT x1).here (q s.heap fun _ _ z => z))
theorem test_three {x1 x2 x3 : Str} {c1 c2 c3 : Value} {p1 p2 p3 tp : Pos} {kk : Nat} (n1 : Names X x1 c1) (n2 : Names X x2 c2) (n3 : Names X x3 c3) : TestOk X (.Tuple [.Name x1 p1, .Name x2 p2, .Name x3 p3] kk tp) [c1, c2, c3] := fun a pn s σ H cls b Q E I LT hx q => by
  refine wpAny_Tuple ?_
  refine wpAny_items_cons (name_ok n1 I ?_)
  refine wpAny_items_cons (name_ok n2 I ?_)
  refine wpAny_items_cons (name_ok n3 I ?_)
  refine wpAny_items_nil ⟨by size_fits, ?_⟩
  have kp : ∀ q o, s.heap.get? q = some o → (s.heap.push { cls := .type "tuple", data := .seq [c1, c2, c3].toArray }).get? q = some o := fun _ _ z => Heap.get?_push_of_some _ z
  exact (PySem.W.exm_tup3 (I.kIn.keeps kp) (LT.keeps kp) (Heap.get?_push_size s.heap rfl) hx).here (q _ kp)
theorem test_four {x1 x2 x3 x4 : Str} {c1 c2 c3 c4 : Value} {p1 p2 p3 p4 tp : Pos} {kk : Nat} (n1 : Names X x1 c1) (n2 : Names X x2 c2) (n3 : Names X x3 c3) (n4 : Names X x4 c4) : TestOk X (.Tuple [.Name x1 p1, .Name x2 p2, .Name x3 p3, .Name x4 p4] kk tp) [c1, c2, c3, c4] := fun a pn s σ H cls b Q E I LT hx q => by
  refine wpAny_Tuple ?_
  refine wpAny_items_cons (name_ok n1 I ?_)
  refine wpAny_items_cons (name_ok n2 I ?_)
  refine wpAny_items_cons (name_ok n3 I ?_)
  refine wpAny_items_cons (name_ok n4 I ?_)
  refine wpAny_items_nil ⟨by size_fits, ?_⟩
  have kp : ∀ q o, s.heap.get? q = some o → (s.heap.push { cls := .type "tuple", data := .seq [c1, c2, c3, c4].toArray }).get? q = some o := fun _ _ z => Heap.get?_push_of_some _ z
  exact (PySem.W.exm_tup4 (I.kIn.keeps kp) (LT.keeps kp) (Heap.get?_push_size s.heap rfl) hx).here (q _ kp)
end
abbrev Cl : Type := List Value × Nat × (Addr → Value → Option Addr → TS)
/-- the ends of a suite whose name, in slot i, goes -/
abbrev endsOf (i : Nat) (D : Ends) : Ends := { nx := fun σ' H' => D.nx (σ'.set i none) H', rt := D.rt, bk := fun σ' H' => D.bk (σ'.set i none) H', ct := fun σ' H' => D.ct (σ'.set i none) H' }
def wM (K : PySem.W.Frag) (Wout : WX) (D : Ends) : List Cl → WX
  | [] => Wout
  | (cs, i, ts) :: r => fun cls d σ H => ∃ b, PySem.W.exmAny K cls cs = some b ∧ (b = true → ∀ a, H a = none → ts a cls d (endsOf i D) (σ.set i (some (.ref a))) H) ∧ (b = false → wM K Wout D r cls d σ H)
inductive HdsA (X : Cx) : List ExceptHandler → List Cl → Prop
  | nil : HdsA X [] []
  | cons {t : Expr} {n : Str} {cs : List Value} {i : Nat} {ts : Addr → Value → Option Addr → TS} {b₀ : Stmt} {suite : List Stmt} {pos' : Pos} {hds : List ExceptHandler} {l : List Cl} (ht : TestOk X t cs) (hi : X.N[i]? = some n) (hln : X.env.kindOf n = some .local)
      (hsu : ∀ (a : Addr) (oe : Obj) (cls : Value) (d : Option Addr) (pn : List (Addr × Obj)), Zc cls d oe → (∃ vs, oe.data = .fields vs) → PSs (X.suite a ((a, oe) :: pn)) (b₀ :: suite) (ts a cls d)) (r : HdsA X hds l) :
      HdsA X (.ExceptHandler (some t) (some n) (b₀ :: suite) pos' :: hds) ((cs, i, ts) :: l)
/-- an error of the class cls is in the air: g, the state in which it came up; G, what it may not touch -/
structure Air (X : Cx) (pins : List (Addr × Obj)) (st : L2.St) (M : Hp) (cls : Value) (dd : Option Addr) (ea : Addr) (G : Heap) (g now : Shared) : Prop where
  inv : Inv X pins st M g
  keeps : ∀ p ob, g.heap.get? p = some ob → p ∉ frs X.stack → G.get? p = some ob
  slots : g.heap.UpToSlots now.heap
  new : M ea = none
  same : now.os = g.os
  bare : AllBare now.gens
section
variable {X : Cx} {pins : List (Addr × Obj)} {st : L2.St} {M : Hp} {cls : Value} {dd : Option Addr} {ea : Addr} {G : Heap} {g now : Shared}
theorem Air.land (a : Air X pins st M cls dd ea G g now) {k : Heap} (fl : HandSPX.FlyingZ G (X.env :: X.outer) ea (Zc cls dd) k) (u : now.heap.UpToSlots k) : Inv X pins st M { now with heap := k } :=
  a.inv.landed a.keeps fl.1 (a.slots.trans u) a.same a.bare
theorem not_frame {k : Heap} (fl : HandSPX.FlyingZ G (X.env :: X.outer) ea (Zc cls dd) k) : ea ∉ frs (X.env :: X.outer) := fun hm => by
  obtain ⟨ob, us, ho, _, hu⟩ := fl.there
  obtain ⟨_, ob2, ho2, no⟩ := fl.2.2.1.mem hm
  cases ho.symm.trans ho2
  exact no us hu
theorem not_locals (hf : X.env.frame = some X.env.locals) (nf : ea ∉ frs (X.env :: X.outer)) : ea ≠ X.env.locals := fun z =>
  nf (List.mem_filterMap.mpr ⟨X.env, List.mem_cons_self, by rw [hf, z]⟩)
theorem not_outer (nf : ea ∉ frs (X.env :: X.outer)) : ea ∉ X.fs := fun hm => by
  obtain ⟨v, hv, hq⟩ := List.mem_filterMap.mp hm
  exact nf (List.mem_filterMap.mpr ⟨v, List.mem_cons_of_mem _ hv, hq⟩)
/-- no clause met it: it goes on -/
theorem air_on {Wout : WX} {D : Ends} (hs : X.stack = X.env :: X.outer) (hf : X.env.frame = some X.env.locals) (tk : Takes X Wout) (a : Air X pins st M cls dd ea G g now) {k : Heap} (fl : HandSPX.FlyingZ G (X.env :: X.outer) ea (Zc cls dd) k) (u : now.heap.UpToSlots k) (w : Wout cls dd st M) :
    wpAny (model X.prog X.w) X.A (handleBy (.ref ea) X.env []) (SP X pins D) X.xe { now with heap := k } := by
  have up : wpAny (model X.prog X.w) X.A (setFlight (.ref ea) X.env.frame) (fun _ z => wpAny (model X.prog X.w) X.A (throw (.ref ea) : Sem Flow) (SP X pins D) X.xe z) X.xe { now with heap := k } := by
    rw [hf]
    exact HandSPX.setFlight_upZ fl fun m hm um => wpAny_throw (tk _ _ ⟨ea, G, g, pins, st, M, cls, dd, rfl, a.inv, a.keeps, (a.slots.trans u).trans um, .inr (.inr (by rw [hs]; exact hm)), a.new, a.same, a.bare, w⟩)
  refine wpAny_handleBy_nil ?_
  obtain ⟨_, _, _, ob, us, tb, _, _, ho, _, hu, h1, _⟩ := id fl
  unfold PySem.passOn
  refine wpAny_bind (wpAny_field ho hu h1 ?_)
  rw [if_neg (by simp : ¬ ((Value.ref tb == Value.none) = true))]
  first
    | exact wpAny_bind (wpAny_pure (wpAny_bind up))
    | exact wpAny_bind up
/-- a clause's suite, its name bound and gone behind it -/
theorem air_suite {E1 E2 : Value → Shared → Prop} {i : Nat} {n : Str} {pos' : Pos} {b₀ : Stmt} {suite : List Stmt} {ts : Addr → Value → Option Addr → TS} {D : Ends} (hf : X.env.frame = some X.env.locals) (hN : X.N.Nodup) (hi : X.N[i]? = some n) (hl : X.env.kindOf n = some .local) (a : Air X pins st M cls dd ea G g now) (nf : ea ∉ frs (X.env :: X.outer))
    (hsu : ∀ (a : Addr) (oe : Obj) (cls : Value) (d : Option Addr) (pn : List (Addr × Obj)), Zc cls d oe → (∃ vs, oe.data = .fields vs) → PSs (X.suite a ((a, oe) :: pn)) (b₀ :: suite) (ts a cls d))
    (w : ts ea cls dd (endsOf i D) (st.set i (some (.ref ea))) M) {k : Heap} (fl : HandSPX.FlyingZ G (X.env :: X.outer) ea (Zc cls dd) k) (u : now.heap.UpToSlots k) {ob : Obj} {us : Array Value} (ho : k.get? ea = some ob) (hz : Zc cls dd ob) (hu : ob.data = .fields us) :
    wpAny (model X.prog X.w) (X.A.mark (some (.ref ea))) (storeName X.env n (.ref ea)) (fun _ z => wpAny (model X.prog X.w) (X.A.mark (some (.ref ea))) (execs (b₀ :: suite) X.env) (fun fw z2 => wpAny (model X.prog X.w) X.A (do bindName X.env n .none; unbindBehindTheSuite X.env n pos') (fun _ z3 => SP X pins D fw z3) X.xe z2) E2 z) E1 { now with heap := k } := by
  refine store_ok (X := X.suite ea ((ea, ob) :: (X.pn ++ pins))) (v := .ref ea) ((a.land fl u).suite ho hu a.new (not_locals hf nf) (not_outer nf)) hN hi (.inl hl) rfl (fun z S => ?_) (.inr hl)
  refine wpAny_mono ((hsu ea ob cls dd (X.pn ++ pins) hz ⟨_, hu⟩).run [] z _ M _ S w) (fun fw z2 hp => ?_) fun _ _ bad => bad.elim
  have away : ∀ {τ : L2.St} {L : Hp} {R : Shared → Prop}, Inv (X.suite ea ((ea, ob) :: (X.pn ++ pins))) [] τ L z2 → (∀ y, Inv X pins (τ.set i none) L y → R y) → wpAny (model X.prog X.w) X.A (do bindName X.env n .none; unbindBehindTheSuite X.env n pos') (fun _ y => R y) X.xe z2 :=
    fun S2 hR => gone_ok (S2.unsuite a.inv.ok) hN hi hl hR
  cases fw with
  | ret _ =>
    obtain ⟨v, τ, L, S2, rv, hq⟩ := hp
    exact away S2 fun y J => ⟨v, _, L, J, rv, hq⟩
  | _ =>
    obtain ⟨τ, L, S2, hq⟩ := hp
    exact away S2 fun y J => ⟨_, L, J, hq⟩
/-- the clauses, one after the other -/
theorem air_clauses {Wout : WX} {D : Ends} (hs : X.stack = X.env :: X.outer) (hf : X.env.frame = some X.env.locals) (hN : X.N.Nodup) (tk : Takes X Wout) (a : Air X pins st M cls dd ea G g now) (nf : ea ∉ frs (X.env :: X.outer)) {hds : List ExceptHandler} {l : List Cl} (hh : HdsA X hds l) :
    ∀ k : Heap, HandSPX.FlyingZ G (X.env :: X.outer) ea (Zc cls dd) k → now.heap.UpToSlots k → wM X.K Wout D l cls dd st M → wpAny (model X.prog X.w) X.A (handleBy (.ref ea) X.env hds) (SP X pins D) X.xe { now with heap := k } := by
  induction hh with
  | nil => exact fun k fl u w => air_on hs hf tk a fl u w
  | cons ht hi hl hsu _ ih =>
    rintro k fl u ⟨b, hb, yes, no⟩
    obtain ⟨ob, us, ho, hz, hu⟩ := fl.there
    have ty : PySem.W.Looks (model X.prog X.w) k (typeOf (.ref ea)) cls := fun _ _ _ _ kk hq => wpAny_typeOf_ref (kk _ _ ho) (by rw [hz.1]; exact hq)
    refine wpAny_handleBy_cons (codeAny_handlers_test (ht ea _ { now with heap := k } st M cls b _ _ ((a.land fl u).suite ho hu a.new (not_locals hf nf) (not_outer nf)) ty hb fun m kp => ?_)) (fun z => by cases z)
    have fm := flyZ_keeps fl kp
    have um := u.trans (Heap.UpToSlots.of_keeps kp)
    cases b with
    | false => exact ih m fm um (no rfl)
    | true =>
      refine codeAny_handlers_suite_as (HandSPX.lands_againZ fm fun m2 f2 u2 => ?_)
      obtain ⟨ob2, us2, ho2, hz2, hu2⟩ := f2.there
      exact air_suite hf hN hi hl a nf hsu (yes rfl ea a.new) f2 (um.trans u2) ho2 hz2 hu2
end
section
variable {X : Cx} {body : List Stmt} {c0 : ExceptHandler} {cs : List ExceptHandler} {l : List Cl} {pos : Pos} {tb : WX → TS} {Wout : WX}
theorem ps_tryM (hs : X.stack = X.env :: X.outer) (hf : X.env.frame = some X.env.locals) (hN : X.N.Nodup) (tk : Takes X Wout)
    (hb : ∀ (W : WX) (pn : List (Addr × Obj)) (xe : Value → Shared → Prop), Takes (X.tr pn xe) W → PassesOwn (model X.prog X.w) X.A X.env xe → PSs (X.tr pn xe) body (tb W))
    (hh : HdsA X (c0 :: cs) l) : PS X (.Try body (c0 :: cs) [] [] pos) (fun D σ H => tb (wM X.K Wout D l) D σ H) := by
  refine ⟨fun pins s σ H D I h => wpAny_Try_except ?_⟩
  refine wpAny_mono ((hb (wM X.K Wout D l) (X.pn ++ pins) _ ?_ PassesOwn.looking).run [] s σ H D (I.toTry _) h) (fun fw z hp => ?_) fun _ _ hx => hx
  · rintro u now ⟨ea, G, g, pins', st, M, cls, dd, rfl, J, nb, up, sky, na, os, ag, w⟩
    have a : Air X pins st M cls dd ea G g now := ⟨J.ofTry I.ok, nb, up, na, os, ag⟩
    rw [show (X.tr (X.pn ++ pins) _).stack = X.env :: X.outer from hs] at sky
    exact Sky.land Zc.steady (by rw [I.ok.frames, hs]) hf sky fun k fl uk => air_clauses hs hf hN tk a (not_frame fl) hh k fl uk w
  · cases fw with
    | ret _ =>
      obtain ⟨v, τ, L, J, rv, hq⟩ := hp
      exact ⟨v, τ, L, J.ofTry I.ok, rv, hq⟩
    | _ =>
      obtain ⟨τ, L, J, hq⟩ := hp
      first
        | exact wpAny_execs_nil ⟨τ, L, J.ofTry I.ok, hq⟩
        | exact ⟨τ, L, J.ofTry I.ok, hq⟩
end
/-! ### a field of the caught error, whatever its class -/
def tXfA (K : PySem.W.Frag) (a : Addr) (cls : Value) (d : Option Addr) (f : Str) (te : TE) : TE := fun σ H Q => te σ H fun x H1 => x = .ref a ∧ ∃ (C dd : Addr) (fs : List (Str × V)) (v : V), cls = .ref C ∧ XfC K C ∧ PySem.W.findIn K (.ref C) f = some none ∧ d = some dd ∧ H1 dd = some (.xd fs) ∧ fs.lookup f = some v ∧ Q v H1
theorem pe_xfA {X : Cx} {ea : Addr} {ob : Obj} {cls : Value} {d : Option Addr} {pn : List (Addr × Obj)} {e : Expr} {te : TE} {pos : Pos} {n : Str} (hz : Zc cls d ob) (hf : ∃ us, ob.data = .fields us) (he : PE (X.suite ea ((ea, ob) :: pn)) e te) (hb : attributeBase e n X.env (eval e X.env) = eval e X.env := by rfl) :
    PE (X.suite ea ((ea, ob) :: pn)) (.Attribute e n pos) (tXfA X.K ea cls d n te) := ⟨fun pins s σ H Q I h => attr_of hb (thn (he.run pins s σ H _ I h) fun got z ⟨y, L, J, ry, ey, C, dd, fs, v, ec, T, no, ed, hd, hl, q⟩ => by
    cases ey
    cases ec
    cases ed
    cases (show got = Value.ref ea from ry)
    obtain ⟨us, hu⟩ := hf
    have there := (J.pin (ea, ob) (List.mem_append_left _ List.mem_cons_self)).1
    obtain ⟨m, hn, rel⟩ := (show ObjOk X.prog X.w L z.heap dd (.xd fs) from J.hok dd _ hd)
    obtain ⟨od, ho, hk⟩ := lookIn_ns hn
    have rn := rel n
    rw [hl] at rn
    obtain ⟨r, hr, rr⟩ := RelO.some_of rn
    refine HandSPX.exc_get J.kIn (od := some od) ⟨there, hz.1, ?_, ?_⟩ T.ga T.gg T.exC (PySem.W.findObj_own T.hdC no rfl (by rw [hk, hr])) (handed_of rr) ⟨v, L, J.tok _, rr, q⟩
    · unfold PySem.W.notCls
      rw [hu] <;> rfl
    · rw [hz.2]
      exact ho)⟩
/-! ### what a class of errors over ValueError must have, as one Bool -/
def oexB (K : PySem.W.Frag) (C : Addr) : Bool := match K.lookup C with
  | some ⟨.type "type", _, .cls cd, sl⟩ => (match cd.mro, sl.toList with
    | .ref C' :: bm, [_, _, _, _, some (.builtin n), _] => C' == C && n == "ValueError.__new__" && !cd.hasDel && cd.hasDict && HandSPX.refsVE bm
    | _, _ => false)
  | _ => false
theorem oex_cls {K : PySem.W.Frag} {C : Addr} (q : oexB K C = true) : ∃ nm q N bs bm sn sub ab col dd k0 k1 k2 k3 k5, K.lookup C = some (excClassObj nm q C N bs bm true sn sub ab col dd k0 k1 k2 k3 k5 "ValueError.__new__") ∧ PySem.HandSPX.refsVE bm = true := by
  unfold oexB at q
  split at q
  · rename_i dd cd sl ho
    split at q
    · rename_i C' bm k0 k1 k2 k3 n k5 hm hs
      simp only [Bool.and_eq_true, beq_iff_eq, Bool.not_eq_true'] at q
      obtain ⟨⟨⟨⟨rfl, rfl⟩, hdel⟩, hdi⟩, ht⟩ := q
      obtain ⟨nm, bs, mro, ns, qn, hd, sn, sub, ab, col, del⟩ := cd
      dsimp only at hm hdel hdi
      subst hm hdel hdi
      have hsl : sl = #[k0, k1, k2, k3, some (.builtin "ValueError.__new__"), k5] := by
        obtain ⟨l⟩ := sl
        simp only at hs
        rw [hs]
      subst hsl
      exact ⟨nm, qn, ns, bs, bm, sn, sub, ab, col, dd, k0, k1, k2, k3, k5, ho, ht⟩
    · cases q
  · cases q
def errB (K : PySem.W.Frag) (C fI : Addr) (f : Str) : Bool := oexB K C && decide (PySem.W.findIn K (.ref C) "__setattr__" = some (some (.builtin "object.__setattr__"))) && decide (PySem.W.subIn K (.ref C) (.type "BaseException") = some true) && decide (PySem.W.typeIn K (.ref C) = some (.type "type")) && PySem.W.keepIn K (.ref C) &&
  xfB K C && decide (PySem.W.findIn K (.ref C) "word" = some none) && decide (PySem.W.findIn K (.ref C) f = some none) && decide (PySem.W.findIn K (.ref C) "__init__" = some (some (.ref fI))) && decide (PySem.W.typeIn K (.ref fI) = some (.type "function"))
structure ErrC (K : PySem.W.Frag) (C fI : Addr) (f : Str) : Prop where
  oe : OexC K C
  xf : XfC K C
  nw : PySem.W.findIn K (.ref C) "word" = some none
  nf : PySem.W.findIn K (.ref C) f = some none
  iC : PySem.W.findIn K (.ref C) "__init__" = some (some (.ref fI))
  tI : PySem.W.typeIn K (.ref fI) = some (.type "function")
theorem errC_of {K : PySem.W.Frag} {C fI : Addr} {f : Str} (h : errB K C fI f = true) : ErrC K C fI f := by
  unfold errB at h
  simp only [Bool.and_eq_true, decide_eq_true_eq] at h
  obtain ⟨⟨⟨⟨⟨⟨⟨⟨⟨h1, h2⟩, h3⟩, h4⟩, h5⟩, h6⟩, h7⟩, h8⟩, h9⟩, h10⟩ := h
  exact ⟨⟨oex_cls h1, h2, h3, h4, h5⟩, xfB_ok h6, h7, h8, h9, h10⟩
end Tm
namespace Tm
open PySem PySem.Spec PyProof.Rows L2 LamX
/-! ### a lambda handed to a def that calls it within a try: what is raised is wished for at the def's own slots -/
section
variable {X : Cx} {pins : List (Addr × Obj)} {σ : L2.St} {H : Hp} {s : Shared}
/-- what stands at f is the lambda of these parts, made by X -/
structure LamAt (X : Cx) (H : Hp) (s : Shared) (params : Arguments) (body : Expr) (scope : Scope) (f cf : Addr) (pm ct : Value) : Prop where
  at_ : s.heap.get? f = some (PySem.W.kla_obj "<lambda>" (X.env.qual ++ "<lambda>") params body scope (cloFrom X.env.cells scope.names []) pm cf ct)
  own : H f = none
  nofr : f ∉ frs X.stack
  nobind : bindArgs (PySem.W.kla_fn "<lambda>" (X.env.qual ++ "<lambda>") params body scope (cloFrom X.env.cells scope.names []) pm (.ref cf) ct) ⟨[], []⟩ = pure []
/-- it is called, in any state that X's calls have come to -/
theorem LamAt.runs {params : Arguments} {body : Expr} {scope : Scope} {f cf : Addr} {pm ct : Value} {tb : TE} {Wh : XK} {k : Nat} {B : Around} {fr : List Env} {L : Hp} {z : Shared} {Q : VK} (T : LamAt X H s params body scope f cf pm ct) (I : Inv X pins σ H s) (S : LamS X.env.scope scope) (hr : Room (k + 1) B) (e0 : Env0 X.prog X.w X.K X.mg X.base B fr z L)
    (un : Un (frs X.stack) [] H L s.heap z.heap) (lim : z.heap.NoLimit) (hc : L cf = some (CodeO cf (X.env.qual ++ "<lambda>"))) (hb : Room k (B.deeper (lamEnv X scope z.heap.objs.size f cf)) → PE (lamCx X B fr z L Wh scope f cf) body tb) (q : tb σ L Q) :
    codeAny (model X.prog X.w) B (.call (.ref f) ⟨[], []⟩) (CR (L2.CX X.prog X.w) fr X.prog X.w L z Q Wh) z := by
  have there := un.keep f _ T.at_ T.own T.nofr (fun m => nomatch (show f ∈ ([] : List Addr) from m))
  obtain ⟨⟨oc, us, tk, h1, h2, h3⟩, _, _⟩ := e0.hok cf _ hc
  refine PySem.W.kla_callFunE hr.depth there rfl S.co S.gen rfl ⟨cf, oc, us, tk, rfl, h1, h2, h3⟩ ?_
  rw [T.nobind]
  refine wpAny_pure (wpAny_newFunctionEnv (fun y hy => (S.own y hy).2) (fun _ hy => absurd hy (by simp)) (fun g hns sb => ⟨lim.fresh _ sb, ?_⟩) S.kind)
  have kp : ∀ p ob, z.heap.get? p = some ob → g.get? p = some ob := fun p ob e => sb.extBut p ob (Nat.ne_of_lt (Heap.lt_size e)) (Heap.get?_push_of_some _ e)
  refine PySem.W.kla_codeExpr (wpAny_mono ((hb (hr.deeper _)).run [] _ _ L Q (lam_start2 (tk := z.toks + ([] : List (Str × Value)).length) I S e0 hr.hd un hns kp) q) (fun v y hy => ?_) fun _ _ hy => hy)
  obtain ⟨r, M, J, rv, hq⟩ := hy
  exact ⟨r, M, J.os, J.bare, J.base, J.hok, rv, hq⟩
/-- the call of what stands in slot i, in the def g that was entered at s by X -/
theorem pe_act2 {CXg : CXT} {Eg : XK} {Ng : List Str} {qg : Str} {sg : Scope} {g f cf : Addr} {cdg pm ct : Value} {params : Arguments} {body : Expr} {scope : Scope} {k i : Nat} {a : Str} {pn : List (Addr × Obj)} {xe : Value → Shared → Prop} {W : WX} {tb : XK → TE} {p1 p2 : Pos} (T : LamAt X H s params body scope f cf pm ct) (I : Inv X pins σ H s) (S : LamS X.env.scope scope)
    (tk : Takes ((cxOf CXg X.prog X.w X.K X.mg X.base Ng qg sg g cdg X.A X.stack s H Eg).tr pn xe) W) (hr : Room (k + 1) (X.A.deeper (envOfC qg sg s.heap.objs.size g cdg)))
    (hbody : ∀ (E : XK) (A : Around) (outer : List Env) (s : Shared) (H : Hp), Room k (A.deeper (lamEnv X scope s.heap.objs.size f cf)) → PE (lamCx X A outer s H E scope f cf) body (tb E))
    (hN : Ng[i]? = some a) (hv : Vis sg a) (hd : (a == ("__debug__" : Str)) = false) (hcd : (a == ("__classdict__" : Str)) = false) :
    PE ((cxOf CXg X.prog X.w X.K X.mg X.base Ng qg sg g cdg X.A X.stack s H Eg).tr pn xe) (.Call (.Name a p1) [] [] p2)
      (fun τ L Q => τ[i]? = some (some (.ref f)) ∧ L cf = some (CodeO cf (X.env.qual ++ "<lambda>")) ∧ tb (fun cls d M => W cls d τ M) σ L Q) := by
  refine ⟨fun pz z τ L Q J ⟨hs, hc, ht⟩ => ?_⟩
  refine wpAny_Call_Name_kw (thn ((pe_var (pos := p1) (i := i) hN hv hd hcd).run pz z τ L (fun v M => v = .ref f ∧ M = L) J ⟨.ref f, hs, rfl, rfl⟩) ?_)
  rintro u y ⟨v, M, J1, ru, rfl, rfl⟩
  cases (show u = Value.ref f from ru)
  have un : Un (frs X.stack) [] H M s.heap y.heap := J1.base
  refine PySem.W.callWith_F0 ⟨_, _, _, _, un.keep f _ T.at_ T.own T.nofr (fun m => nomatch (show f ∈ ([] : List Addr) from m))⟩ (wpAny_call (codeAny_mono (T.runs I S hr J1.env0 un J1.nolimit hc (fun h => hbody _ _ _ y M h) ht) fun r y2 hy => ?_))
  match r, hy with
  | .error er, hy => exact passAt tk τ pz M y er y2 J1 hy
  | .ok (.ret _), hy => exact J1.after hy
  | .ok .next, hy => exact False.elim hy
  | .ok .brk, hy => exact False.elim hy
  | .ok .cont, hy => exact False.elim hy
/-- the def that calls what it got, in slot 0 -/
def GivesTo2 (X : Cx) (Ng : List Str) (x : Str) (sg : Scope) (g : Addr) (cdg : Value) (bg : List Stmt) (a : Str) (q : Str) (TT : (XK → Hp → VK → Prop) → Hp → VK → Prop) : Prop :=
  ∀ (f cf : Addr) (s : Shared) (H : Hp) (Q : VK) (tl : XK → Hp → VK → Prop),
    (∀ (W : WX) (pn : List (Addr × Obj)) (xe : Value → Shared → Prop) (p1 p2 : Pos), Takes ((cxOf C8.CX0 X.prog X.w X.K X.mg X.base Ng x sg g cdg X.A X.stack s H C8.E0).tr pn xe) W →
      PE ((cxOf C8.CX0 X.prog X.w X.K X.mg X.base Ng x sg g cdg X.A X.stack s H C8.E0).tr pn xe) (.Call (.Name a p1) [] [] p2) (fun τ L Q => τ[0]? = some (some (.ref f)) ∧ L cf = some (CodeO cf q) ∧ tl (fun cls d M => W cls d τ M) L Q)) →
    H cf = some (CodeO cf q) → TT tl H Q →
    ∃ t, PSs (cxOf C8.CX0 X.prog X.w X.K X.mg X.base Ng x sg g cdg X.A X.stack s H C8.E0).nox bg t ∧ t { nx := fun _ M => Q .non M, rt := Q } (L2.start Ng [.ref f]) H
/-- x(lambda: body) -/
theorem pe_lamcall2 {T : List (Addr × Str)} {TT : (XK → Hp → VK → Prop) → Hp → VK → Prop} {x a : Str} {g c PT : Addr} {k : Nat} {pg : Arguments} {bg : List Stmt} {sg : Scope} {dV kV doc pm cdv ct oc : Value} {an od : Option Addr} {osl : Array (Option Value)} {Ng : List Str} {params : Arguments} {body : Expr} {scope : Scope} {t : XK → TE} {p lpos pos : Pos} (hg : Gl X x) (hm : X.mg x = some (.ref g)) (hk : PySem.W.keepIn X.K (.ref g) = true)
    (lk : X.K.lookup g = some ⟨oc, od, .func (PySem.W.fnOf x x pg bg sg dV kV doc pm an cdv ct), osl⟩) (hcg : PySem.W.codeIn X.K cdv x = true) (hb : L2.Binds X.K (PySem.W.fnOf x x pg bg sg dV kV doc pm an cdv ct) [a] []) (Sg : FnScope Ng [a] sg) (hNg : Ng[0]? = some a) (hva : Vis sg a) (hG : GivesTo2 X Ng x sg g cdv bg a (X.env.qual ++ "<lambda>") TT)
    (TB : TabB X.base X.mg c PT) (hcode : X.env.code = .ref c) (hmT : (PT, X.env.qual ++ "<lambda>") ∈ T) (hu : ∀ p ∈ T, p.1 = PT → p.2 = X.env.qual ++ "<lambda>") (hr : Room (k + 2) X.A) (S : LamS X.env.scope scope) (hdef : defaultsOf params X.env = ([], []))
    (hbind : ∀ (q : Str) (cl : List (Str × Addr)) (pm cv ctv : Value), bindArgs (PySem.W.kla_fn "<lambda>" q params body scope cl pm cv ctv) ⟨[], []⟩ = pure [])
    (hbody : ∀ (A : Around) (outer : List Env) (s : Shared) (H : Hp) (E : XK) (f cf : Addr), Room k (A.deeper (lamEnv X scope s.heap.objs.size f cf)) → PE (lamCx X A outer s H E scope f cf) body (t E))
    (hdb : (x == ("__debug__" : Str)) = false := by decide) (hd : (a == ("__debug__" : Str)) = false := by decide) (hcd : (a == ("__classdict__" : Str)) = false := by decide) :
    PE X (.Call (.Name x p) [.Lambda params body scope lpos] [] pos) (tLam T TT t) := by
  refine ⟨fun pins s σ H Q I ⟨hT, h⟩ => wpAny_Call_Name_kw (ld_glob I hg hm (PySem.W.callWith_K (h₀ := X.base) I.ok.mod.kin hk ?_ (by rfl) (by rfl)) hdb)⟩
  show wpAny _ _ (spliced ((false, eval (.Lambda params body scope lpos) X.env) :: backTo pos (starEach [] X.env))) _ _ s
  refine Calls.spliced_cons (lam_make2 I TB hcode hmT hu hT hdef (S.has I.ok) fun f cf pf cv M z J eN TM hf nf nfr hco => Calls.spliced_nil ⟨J.kIn, wpAny_call ?_⟩)
  have LA : LamAt X M z params body scope f cf pf cv := ⟨hf, nf, nfr, hbind _ _ _ _ _⟩
  refine codeAny_mono (R := CR C8.CX0 X.stack X.prog X.w M z Q C8.E0) (run_ofS (N := Ng) (ps := [a]) (us := [.ref f]) (vs := [.ref f]) lk hcg Sg hr J.env0 (hb z [.ref f] J.kIn rfl) (.cons rfl .nil) rfl fun room => ?_) fun r y hy => ?_
  · obtain ⟨tt, h1, h2⟩ := hG f cf z M Q (fun E L Q' => t E σ L Q') (fun W pn xe p1 p2 tk => pe_act2 (i := 0) LA J S tk room (fun E A outer s H h => hbody A outer s H E f cf h) hNg hva hd hcd) hco (h M eN TM)
    exact ⟨tt, h1.nox, h2⟩
  · match r, hy with
    | .error _, hy => exact (show False from hy).elim
    | .ok (.ret _), hy => exact J.after hy
    | .ok .next, hy => exact False.elim hy
    | .ok .brk, hy => exact False.elim hy
    | .ok .cont, hy => exact False.elim hy
end
end Tm
namespace Tm
open PySem PySem.Spec PyProof.Rows L2
/-- a def of the text whose code object is known -/
structure FunC (K : PySem.W.Frag) (x qual : Str) (st : Stmt) (f : Addr) (fd : FuncData) (c : Addr) : Prop where
  ex : ∃ (oc : Value) (od : Option Addr) (kV doc pm : Value) (an : Option Addr) (ct : Value) (osl : Array (Option Value)),
    fd = PySem.W.fnOf x qual (defArgs st) (defBody st) (defScope st) .none kV doc pm an (.ref c) ct ∧ K.lookup f = some ⟨oc, od, .func fd, osl⟩ ∧ PySem.W.codeIn K (.ref c) qual = true
  kp : PySem.W.keepIn K (.ref f) = true
theorem FunC.ok {P : Program} {w : World} {K : PySem.W.Frag} {mg : Str → Option Value} {base : Heap} {x qual : Str} {st : Stmt} {f c : Addr} {fd : FuncData} {N ps : List Str} {k : Nat} {sp : Sp} (F : FunC K x qual st f fd c) (S : FnScope N ps (defScope st)) (len : ∀ vs H Q E, sp vs H Q E → vs.length = ps.length)
    (hbody : ∀ (A : Around) (outer : List Env) (s : Shared) (H : Hp) (vs : List V) (Q : VK) (E : XK), Room k (A.deeper (envOfC qual (defScope st) s.heap.objs.size f (.ref c))) → sp vs H Q E →
      ∃ t, PSs (cxOf CX0 P w K mg base N qual (defScope st) f (.ref c) A outer s H E).nox (defBody st) t ∧ t { nx := fun _ H' => Q .non H', rt := Q } (start N vs) H) : FnOk P w K mg base CX0 (k + 1) f fd ps sp := by
  obtain ⟨oc, od, kV, doc, pm, an, ct, osl, rfl, lk, hcd⟩ := F.ex
  exact fn_of lk hcd S len fun A outer s H vs Q E hr hsp => by
    obtain ⟨t, h1, h2⟩ := hbody A outer s H vs Q E hr hsp
    exact ⟨t, h1.nox, h2⟩
theorem funC_mk {K : PySem.W.Frag} {x qual : Str} {st : Stmt} {f c : Addr} {oc : Value} {od an : Option Addr} {osl : Array (Option Value)} {kV doc pm ct : Value} (l : K.lookup f = some ⟨oc, od, .func (PySem.W.fnOf x qual (defArgs st) (defBody st) (defScope st) .none kV doc pm an (.ref c) ct), osl⟩)
    (h : PySem.W.codeIn K (.ref c) qual = true) (k : PySem.W.keepIn K (.ref f) = true) : FunC K x qual st f (PySem.W.fnOf x qual (defArgs st) (defBody st) (defScope st) .none kV doc pm an (.ref c) ct) c := ⟨⟨oc, od, kV, doc, pm, an, ct, osl, rfl, l, h⟩, k⟩
theorem extN_tup {K : PySem.W.Frag} {H H' : Hp} {p : Addr} {xs : List V} (e : LamX.ExtN H H') (h : SqT K H p xs) : SqT K H' p xs := by
  rcases h with (h | ⟨o, h⟩) | h
  · exact .inl (.inl (e _ _ h (fun _ z => nomatch z)))
  · exact .inl (.inr ⟨o, e _ _ h (fun _ z => nomatch z)⟩)
  · exact .inr h
theorem extN_lst {K : PySem.W.Frag} {H H' : Hp} {p : Addr} {xs : List V} (e : LamX.ExtN H H') (h : SqL K H p xs) : SqL K H' p xs := by
  rcases h with (h | ⟨o, h⟩) | h
  · exact .inl (.inl (e _ _ h (fun _ z => nomatch z)))
  · exact .inl (.inr ⟨o, e _ _ h (fun _ z => nomatch z)⟩)
  · exact .inr h
theorem tabs_but {T : List (Addr × Str)} {H H' : Hp} {b : Addr} {xs : List V} (hb : H b = some (.lst xs)) (x : ∀ c o, c ≠ b → H c = some o → H' c = some o) (t : LamX.Tabs T H) : LamX.Tabs T H' := fun p hp => by
  obtain ⟨ps, h1, h2, h3⟩ := t p hp
  refine ⟨ps, x _ _ (ne_of h1 hb (fun z => nomatch z)) h1, h2, fun pos cv hc => ?_⟩
  obtain ⟨c, e1, e2⟩ := h3 pos cv hc
  exact ⟨c, e1, x _ _ (ne_of e2 hb (fun z => by unfold LamX.CodeO at z; cases z)) e2⟩
theorem op_eqDK {X : Cx} {K : PySem.W.Frag} (hK : X.K = K) (hu : X.A.units + 64 < cLine) : OpR X (compareOp .Eq) (rEqD K) := hK ▸ op_eqD hu
theorem op_neDK {X : Cx} {K : PySem.W.Frag} (hK : X.K = K) (hu : X.A.units + 64 < cLine) : OpR X (compareOp .NotEq) (rNeD K) := hK ▸ op_neD hu
end Tm
namespace Wb
open PySem PySem.Spec PyProof.Rows L2 RZ Sg Tm
/-! ### errors raised -/
def spE (C : Addr) (f w : Str) : Sp := fun vs H Q _ => ∃ a v, vs = [.ref a, v] ∧ H a = some (exo a C none) ∧ ∀ d, H d = none → d ≠ a → Q .non (upd (upd (upd H d (exd d [(f, v)])) a (exo a C (some d))) d (exd d [("word", .str w), (f, v)]))
/-- the error's own dict, as it is told -/
abbrev xdE (w f : Str) (v : V) : HO := .xd [("word", .str w), (f, v)]
theorem mkE {C : Addr} {f w : Str} {te : TE} {σ : L2.St} {H H1 : Hp} {v : V} {Q : XK} (hv : ∀ Q' : VK, Q' v H1 → te σ H Q') (q : ∀ d H', H1 d = none → H' d = some (xdE w f v) → Same H1 H' → Q (.ref C) (some d) H') : tMkO C (spE C f w) [] (tCons te tNil) σ H Q := by
  refine hv _ ⟨by show 1 ≤ 1000; decide, fun a na => ⟨a, v, rfl, upd_same, fun d nd ne => ⟨rfl, d, _, ?_, upd_same, ?_, ?_⟩⟩⟩
  · rw [upd_ne ne.symm]
    exact upd_same
  · rw [upd_ne ne] at nd
    exact nd
  · rw [upd_ne ne] at nd
    refine q d _ nd upd_same fun c o h => ?_
    have ca : c ≠ a := ne_of_none h na
    have cd : c ≠ d := ne_of_none h nd
    rw [upd_ne cd, del_ne ca, upd_ne cd, upd_ne ca, upd_ne cd, upd_ne ca]
    exact h
/-- what a call within may raise is what the def raises -/
theorem passE {X : Cx} {E : XK} {E1 : Value → Shared → Prop} (hs : X.stack = X.env :: X.outer) (hf : X.env.frame = some X.env.locals) (hex : X.ex = [])
    (hx : X.xe = fun e s' => wpAny (model X.prog X.w) X.A (leaving X.env e) (fun _ s'' => L2.CX X.prog X.w X.outer X.H_0 X.s_0 E e s'') E1 s') : Passes (L2.CX X.prog X.w) X E := passes_call (takes_of hs hf hex hx) fun _ _ _ _ h => h
structure EDf (P : Program) (w : World) (K : PySem.W.Frag) (mg : Str → Option Value) (base : Heap) (x f : Str) (C fI : Addr) (fd : FuncData) : Prop where
  ok : FnOk P w K mg base CX0 1 fI fd ["self", f] (spE C f x)
  er : ErrC K C fI f
  gl : mg x = some (.ref C)
  bd : Binds K fd ["self", f] []
structure DfX (P : Program) (w : World) (K : PySem.W.Frag) (mg : Str → Option Value) (base : Heap) (k : Nat) (x : Str) (ps : List Str) (sp : Sp) (f : Addr) (fd : FuncData) : Prop where
  ok : FnOk P w K mg base (L2.CX P w) k f fd ps sp
  gl : mg x = some (.ref f)
  kp : PySem.W.keepIn K (.ref f) = true
  bd : Binds K fd ps []
structure MfX (P : Program) (w : World) (K : PySem.W.Frag) (mg : Str → Option Value) (base : Heap) (k : Nat) (C : Addr) (m : Str) (ps : List Str) (sp : Sp) (f : Addr) (fd : FuncData) : Prop where
  ok : FnOk P w K mg base (L2.CX P w) k f fd ps sp
  mt : Meth K C m f
  bd : Binds K fd ps []
structure MfN (P : Program) (w : World) (K : PySem.W.Frag) (mg : Str → Option Value) (base : Heap) (k : Nat) (C : Addr) (m : Str) (ps : List Str) (sp : Sp) (f : Addr) (fd : FuncData) : Prop where
  ok : FnOk P w K mg base CX0 k f fd ps sp
  mt : Meth K C m f
  bd : Binds K fd ps []
section
variable {P : Program} {w : World} {K : PySem.W.Frag} {mg : Str → Option Value} {base : Heap}
abbrev sEBadSize : Stmt := inClass (topS 3) 0
theorem scEBadSize : FnScope ["self", "number"] ["self", "number"] (defScope sEBadSize) := ⟨rfl, rfl, rfl, by decide +kernel, rfl, by decide +kernel, by decide +kernel⟩
theorem ok_eBadSize {f C : Addr} {fd : FuncData} (F : Fun K "__init__" "BadSize.__init__" sEBadSize f fd) (T : ErrC K C f "number") : FnOk P w K mg base CX0 1 f fd ["self", "number"] (spE C "number" "BadSize") := by
  refine F.ok scEBadSize (fun vs H Q E h => ?_) (fun cdv A outer s H vs Q E hr h => ?_)
  · obtain ⟨a, v, rfl, _⟩ := h
    rfl
  · obtain ⟨a, v, rfl, ha, K1⟩ := h
    refine ⟨_, pss_cons (ps_ost (pv 0) (pv 1)) (pss_one (ps_ost (pv 0) pe_str)), _, rfl, _, rfl, a, C, rfl, T.oe, T.nf, .inl ⟨ha, fun d nd ne => ?_⟩⟩
    exact ⟨_, rfl, a, C, rfl, T.oe, T.nw, .inr ⟨d, _, upd_same, by rw [upd_ne ne]; exact upd_same, by show 1 ≤ 900; decide, K1 d nd ne⟩⟩
abbrev sEBadArrow : Stmt := inClass (topS 4) 0
theorem scEBadArrow : FnScope ["self", "at"] ["self", "at"] (defScope sEBadArrow) := ⟨rfl, rfl, rfl, by decide +kernel, rfl, by decide +kernel, by decide +kernel⟩
theorem ok_eBadArrow {f C : Addr} {fd : FuncData} (F : Fun K "__init__" "BadArrow.__init__" sEBadArrow f fd) (T : ErrC K C f "at") : FnOk P w K mg base CX0 1 f fd ["self", "at"] (spE C "at" "BadArrow") := by
  refine F.ok scEBadArrow (fun vs H Q E h => ?_) (fun cdv A outer s H vs Q E hr h => ?_)
  · obtain ⟨a, v, rfl, _⟩ := h
    rfl
  · obtain ⟨a, v, rfl, ha, K1⟩ := h
    refine ⟨_, pss_cons (ps_ost (pv 0) (pv 1)) (pss_one (ps_ost (pv 0) pe_str)), _, rfl, _, rfl, a, C, rfl, T.oe, T.nf, .inl ⟨ha, fun d nd ne => ?_⟩⟩
    exact ⟨_, rfl, a, C, rfl, T.oe, T.nw, .inr ⟨d, _, upd_same, by rw [upd_ne ne]; exact upd_same, by show 1 ≤ 900; decide, K1 d nd ne⟩⟩
abbrev sEBadMark : Stmt := inClass (topS 5) 0
theorem scEBadMark : FnScope ["self", "at"] ["self", "at"] (defScope sEBadMark) := ⟨rfl, rfl, rfl, by decide +kernel, rfl, by decide +kernel, by decide +kernel⟩
theorem ok_eBadMark {f C : Addr} {fd : FuncData} (F : Fun K "__init__" "BadMark.__init__" sEBadMark f fd) (T : ErrC K C f "at") : FnOk P w K mg base CX0 1 f fd ["self", "at"] (spE C "at" "BadMark") := by
  refine F.ok scEBadMark (fun vs H Q E h => ?_) (fun cdv A outer s H vs Q E hr h => ?_)
  · obtain ⟨a, v, rfl, _⟩ := h
    rfl
  · obtain ⟨a, v, rfl, ha, K1⟩ := h
    refine ⟨_, pss_cons (ps_ost (pv 0) (pv 1)) (pss_one (ps_ost (pv 0) pe_str)), _, rfl, _, rfl, a, C, rfl, T.oe, T.nf, .inl ⟨ha, fun d nd ne => ?_⟩⟩
    exact ⟨_, rfl, a, C, rfl, T.oe, T.nw, .inr ⟨d, _, upd_same, by rw [upd_ne ne]; exact upd_same, by show 1 ≤ 900; decide, K1 d nd ne⟩⟩
abbrev sEBadPoint : Stmt := inClass (topS 6) 0
theorem scEBadPoint : FnScope ["self", "number"] ["self", "number"] (defScope sEBadPoint) := ⟨rfl, rfl, rfl, by decide +kernel, rfl, by decide +kernel, by decide +kernel⟩
theorem ok_eBadPoint {f C : Addr} {fd : FuncData} (F : Fun K "__init__" "BadPoint.__init__" sEBadPoint f fd) (T : ErrC K C f "number") : FnOk P w K mg base CX0 1 f fd ["self", "number"] (spE C "number" "BadPoint") := by
  refine F.ok scEBadPoint (fun vs H Q E h => ?_) (fun cdv A outer s H vs Q E hr h => ?_)
  · obtain ⟨a, v, rfl, _⟩ := h
    rfl
  · obtain ⟨a, v, rfl, ha, K1⟩ := h
    refine ⟨_, pss_cons (ps_ost (pv 0) (pv 1)) (pss_one (ps_ost (pv 0) pe_str)), _, rfl, _, rfl, a, C, rfl, T.oe, T.nf, .inl ⟨ha, fun d nd ne => ?_⟩⟩
    exact ⟨_, rfl, a, C, rfl, T.oe, T.nw, .inr ⟨d, _, upd_same, by rw [upd_ne ne]; exact upd_same, by show 1 ≤ 900; decide, K1 d nd ne⟩⟩
abbrev sEBadText : Stmt := inClass (topS 7) 0
theorem scEBadText : FnScope ["self", "at"] ["self", "at"] (defScope sEBadText) := ⟨rfl, rfl, rfl, by decide +kernel, rfl, by decide +kernel, by decide +kernel⟩
theorem ok_eBadText {f C : Addr} {fd : FuncData} (F : Fun K "__init__" "BadText.__init__" sEBadText f fd) (T : ErrC K C f "at") : FnOk P w K mg base CX0 1 f fd ["self", "at"] (spE C "at" "BadText") := by
  refine F.ok scEBadText (fun vs H Q E h => ?_) (fun cdv A outer s H vs Q E hr h => ?_)
  · obtain ⟨a, v, rfl, _⟩ := h
    rfl
  · obtain ⟨a, v, rfl, ha, K1⟩ := h
    refine ⟨_, pss_cons (ps_ost (pv 0) (pv 1)) (pss_one (ps_ost (pv 0) pe_str)), _, rfl, _, rfl, a, C, rfl, T.oe, T.nf, .inl ⟨ha, fun d nd ne => ?_⟩⟩
    exact ⟨_, rfl, a, C, rfl, T.oe, T.nw, .inr ⟨d, _, upd_same, by rw [upd_ne ne]; exact upd_same, by show 1 ≤ 900; decide, K1 d nd ne⟩⟩
abbrev sEBadNumber : Stmt := inClass (topS 8) 0
theorem scEBadNumber : FnScope ["self", "number"] ["self", "number"] (defScope sEBadNumber) := ⟨rfl, rfl, rfl, by decide +kernel, rfl, by decide +kernel, by decide +kernel⟩
theorem ok_eBadNumber {f C : Addr} {fd : FuncData} (F : Fun K "__init__" "BadNumber.__init__" sEBadNumber f fd) (T : ErrC K C f "number") : FnOk P w K mg base CX0 1 f fd ["self", "number"] (spE C "number" "BadNumber") := by
  refine F.ok scEBadNumber (fun vs H Q E h => ?_) (fun cdv A outer s H vs Q E hr h => ?_)
  · obtain ⟨a, v, rfl, _⟩ := h
    rfl
  · obtain ⟨a, v, rfl, ha, K1⟩ := h
    refine ⟨_, pss_cons (ps_ost (pv 0) (pv 1)) (pss_one (ps_ost (pv 0) pe_str)), _, rfl, _, rfl, a, C, rfl, T.oe, T.nf, .inl ⟨ha, fun d nd ne => ?_⟩⟩
    exact ⟨_, rfl, a, C, rfl, T.oe, T.nw, .inr ⟨d, _, upd_same, by rw [upd_ne ne]; exact upd_same, by show 1 ≤ 900; decide, K1 d nd ne⟩⟩
abbrev sEBadStrike : Stmt := inClass (topS 9) 0
theorem scEBadStrike : FnScope ["self", "at"] ["self", "at"] (defScope sEBadStrike) := ⟨rfl, rfl, rfl, by decide +kernel, rfl, by decide +kernel, by decide +kernel⟩
theorem ok_eBadStrike {f C : Addr} {fd : FuncData} (F : Fun K "__init__" "BadStrike.__init__" sEBadStrike f fd) (T : ErrC K C f "at") : FnOk P w K mg base CX0 1 f fd ["self", "at"] (spE C "at" "BadStrike") := by
  refine F.ok scEBadStrike (fun vs H Q E h => ?_) (fun cdv A outer s H vs Q E hr h => ?_)
  · obtain ⟨a, v, rfl, _⟩ := h
    rfl
  · obtain ⟨a, v, rfl, ha, K1⟩ := h
    refine ⟨_, pss_cons (ps_ost (pv 0) (pv 1)) (pss_one (ps_ost (pv 0) pe_str)), _, rfl, _, rfl, a, C, rfl, T.oe, T.nf, .inl ⟨ha, fun d nd ne => ?_⟩⟩
    exact ⟨_, rfl, a, C, rfl, T.oe, T.nw, .inr ⟨d, _, upd_same, by rw [upd_ne ne]; exact upd_same, by show 1 ≤ 900; decide, K1 d nd ne⟩⟩
abbrev sETooMany : Stmt := inClass (topS 10) 0
theorem scETooMany : FnScope ["self", "bound"] ["self", "bound"] (defScope sETooMany) := ⟨rfl, rfl, rfl, by decide +kernel, rfl, by decide +kernel, by decide +kernel⟩
theorem ok_eTooMany {f C : Addr} {fd : FuncData} (F : Fun K "__init__" "TooMany.__init__" sETooMany f fd) (T : ErrC K C f "bound") : FnOk P w K mg base CX0 1 f fd ["self", "bound"] (spE C "bound" "TooMany") := by
  refine F.ok scETooMany (fun vs H Q E h => ?_) (fun cdv A outer s H vs Q E hr h => ?_)
  · obtain ⟨a, v, rfl, _⟩ := h
    rfl
  · obtain ⟨a, v, rfl, ha, K1⟩ := h
    refine ⟨_, pss_cons (ps_ost (pv 0) (pv 1)) (pss_one (ps_ost (pv 0) pe_str)), _, rfl, _, rfl, a, C, rfl, T.oe, T.nf, .inl ⟨ha, fun d nd ne => ?_⟩⟩
    exact ⟨_, rfl, a, C, rfl, T.oe, T.nw, .inr ⟨d, _, upd_same, by rw [upd_ne ne]; exact upd_same, by show 1 ≤ 900; decide, K1 d nd ne⟩⟩
end
end Wb
namespace Wb
open PySem PySem.Spec PyProof.Rows L2 RZ Sg Tm
end Wb
namespace Wb
open PySem PySem.Spec PyProof.Rows L2 RZ Sg Tm
abbrev sAt : Stmt := topS 24
section
variable {P : Program} {w : World} {K : PySem.W.Frag} {mg : Str → Option Value} {base : Heap}
/-! ### what a call within a lambda raises, told -/
structure Ecs where
  ba : Addr
  bm : Addr
  bt : Addr
  bs : Addr
  sz : Addr
  pt : Addr
  nu : Addr
  tm : Addr
structure AtG (mg : Str → Option Value) (e : Ecs) : Prop where
  ba : mg "BadArrow" = some (.ref e.ba)
  bm : mg "BadMark" = some (.ref e.bm)
  bt : mg "BadText" = some (.ref e.bt)
  bs : mg "BadStrike" = some (.ref e.bs)
  sz : mg "BadSize" = some (.ref e.sz)
  pt : mg "BadPoint" = some (.ref e.pt)
  nu : mg "BadNumber" = some (.ref e.nu)
  tm : mg "TooMany" = some (.ref e.tm)
abbrev hd1 (e : Ecs) : List Value := [.ref e.ba, .ref e.bm, .ref e.bt, .ref e.bs]
abbrev hd2 (e : Ecs) : List Value := [.ref e.sz, .ref e.pt, .ref e.nu]
abbrev hd3 (e : Ecs) : List Value := [.ref e.tm]
/-- errors of the class C, bearing f, are met by the clause that asks for f -/
def AtC (K : PySem.W.Frag) (e : Ecs) (C : Addr) (f : Str) : Prop := (f = "at" ∧ PySem.W.exmAny K (.ref C) (hd1 e) = some true) ∨ (f = "number" ∧ PySem.W.exmAny K (.ref C) (hd1 e) = some false ∧ PySem.W.exmAny K (.ref C) (hd2 e) = some true) ∨
  (f = "bound" ∧ PySem.W.exmAny K (.ref C) (hd1 e) = some false ∧ PySem.W.exmAny K (.ref C) (hd2 e) = some false ∧ PySem.W.exmAny K (.ref C) (hd3 e) = some true)
def atB (K : PySem.W.Frag) (e : Ecs) (C : Addr) (n : Nat) : Bool := match n with
  | 0 => decide (PySem.W.exmAny K (.ref C) (hd1 e) = some true)
  | 1 => decide (PySem.W.exmAny K (.ref C) (hd1 e) = some false) && decide (PySem.W.exmAny K (.ref C) (hd2 e) = some true)
  | _ => decide (PySem.W.exmAny K (.ref C) (hd1 e) = some false) && decide (PySem.W.exmAny K (.ref C) (hd2 e) = some false) && decide (PySem.W.exmAny K (.ref C) (hd3 e) = some true)
theorem atC0 {e : Ecs} {C : Addr} (h : atB K e C 0 = true) : AtC K e C "at" := .inl ⟨rfl, of_decide_eq_true h⟩
theorem atC1 {e : Ecs} {C : Addr} (h : atB K e C 1 = true) : AtC K e C "number" := by
  unfold atB at h
  simp only [Bool.and_eq_true, decide_eq_true_eq] at h
  exact .inr (.inl ⟨rfl, h.1, h.2⟩)
theorem atC2 {e : Ecs} {C : Addr} (h : atB K e C 2 = true) : AtC K e C "bound" := by
  unfold atB at h
  simp only [Bool.and_eq_true, decide_eq_true_eq] at h
  exact .inr (.inr ⟨rfl, h.1.1, h.1.2, h.2⟩)
/-- what is wished of an error -/
def WishAt (K : PySem.W.Frag) (e : Ecs) (Q : VK) : XK := fun cls d H' => ∃ (C fI dd : Addr) (f x : Str) (v : V), cls = .ref C ∧ AtC K e C f ∧ ErrC K C fI f ∧ d = some dd ∧ H' dd = some (xdE x f v) ∧ f ≠ "word" ∧ ∀ p, H' p = none → Q (.ref p) (upd H' p (.tup [.str x, v]))
def TAt (K : PySem.W.Frag) (e : Ecs) : (XK → Hp → VK → Prop) → Hp → VK → Prop := fun tl H Q => ∀ (E1 : XK) (Q1 : VK), (∀ cls d H', WishAt K e Q cls d H' → E1 cls d H') → (∀ v H', Q .non H' → Q1 v H') → tl E1 H Q1
theorem scAt : FnScope ["_law_ask", "_law_found", "e"] ["_law_ask"] (defScope sAt) := ⟨rfl, rfl, rfl, by decide +kernel, rfl, by decide +kernel, by decide +kernel⟩
theorem look_w {x f : Str} {v : V} : List.lookup ("word" : Str) ([("word", V.str x), (f, v)] : List (Str × V)) = some (V.str x) := by rw [lookup_put, if_pos rfl]
theorem look_f {x f : Str} {v : V} (h : f ≠ "word") : ([("word", V.str x), (f, v)] : List (Str × V)).lookup f = some v := by
  rw [lookup_put, if_neg h, lookup_put, if_pos rfl]
set_option maxHeartbeats 2000000 in
theorem at_gives {X : Cx} {e : Ecs} {g : Addr} {cdg : Value} {q : Str} (G : AtG X.mg e) : GivesTo2 X ["_law_ask", "_law_found", "e"] "_law_at" (defScope sAt) g cdg (defBody sAt) "_law_ask" q (TAt X.K e) := by
  intro f c' s H Q tl act hc h
  refine ⟨_, pss_cons (ps_set (i := 1) scAt.nd rfl (.inl rfl) pe_non)
    (pss_cons (ps_tryM (X := (cxOf C8.CX0 X.prog X.w X.K X.mg X.base ["_law_ask", "_law_found", "e"] "_law_at" (defScope sAt) g cdg X.A X.stack s H C8.E0).nox)
      (tb := fun W D σ H => σ[0]? = some (some (.ref f)) ∧ H c' = some (LamX.CodeO c' q) ∧ tl (fun cls d H' => W cls d σ H') H (fun _ H1 => D.nx σ H1)) (l := [(hd1 e, 2, _), (hd2 e, 2, _), (hd3 e, 2, _)])
      rfl rfl scAt.nd L2.takes0 (fun W pn xe tk _ => ?_)
      (.cons (test_four ⟨rfl, by decide, .inl G.ba⟩ ⟨rfl, by decide, .inl G.bm⟩ ⟨rfl, by decide, .inl G.bt⟩ ⟨rfl, by decide, .inl G.bs⟩) rfl rfl (fun a oe cls d pn hz hf => pss_one (ps_set (i := 1) scAt.nd rfl (.inl rfl) (pe_tup (pa_cons (pe_xfA hz hf (pv 2)) (pa_cons (pe_xfA hz hf (pv 2)) pa_nil)))))
      (.cons (test_three ⟨rfl, by decide, .inl G.sz⟩ ⟨rfl, by decide, .inl G.pt⟩ ⟨rfl, by decide, .inl G.nu⟩) rfl rfl (fun a oe cls d pn hz hf => pss_one (ps_set (i := 1) scAt.nd rfl (.inl rfl) (pe_tup (pa_cons (pe_xfA hz hf (pv 2)) (pa_cons (pe_xfA hz hf (pv 2)) pa_nil)))))
      (.cons (test_one ⟨rfl, by decide, .inl G.tm⟩) rfl rfl (fun a oe cls d pn hz hf => pss_one (ps_set (i := 1) scAt.nd rfl (.inl rfl) (pe_tup (pa_cons (pe_xfA hz hf (pv 2)) (pa_cons (pe_xfA hz hf (pv 2)) pa_nil))))) .nil))))
    (pss_one (ps_ret (pv 1)))), ?_⟩
  · refine ⟨fun pins s' σ H' D I h' => ?_⟩
    obtain ⟨h1, h2, h3⟩ := h'
    exact (pss_one (ps_expr (act W pn xe _ _ tk))).run pins s' σ H' D I ⟨h1, h2, h3⟩
  · refine seq_set ⟨rfl, hc, h _ _ (fun cls d H' wi => ?_) (fun v H' q => ⟨_, rfl, q⟩)⟩
    obtain ⟨C, fI, dd, fl, x, v, rfl, aC, eC, rfl, hd, nw, K1⟩ := wi
    rcases aC with ⟨rfl, h1⟩ | ⟨rfl, h1, h2⟩ | ⟨rfl, h1, h2, h3⟩
    · refine ⟨true, h1, fun _ a na => ?_, (fun z => nomatch z)⟩
      exact ⟨_, rfl, rfl, C, dd, _, _, rfl, eC.xf, eC.nw, rfl, hd, look_w, _, rfl, rfl, C, dd, _, _, rfl, eC.xf, eC.nf, rfl, hd, look_f nw, by show 2 ≤ sizeLine; decide, fun p np => ⟨_, rfl, K1 p np⟩⟩
    · refine ⟨false, h1, (fun z => nomatch z), fun _ => ⟨true, h2, fun _ a na => ?_, (fun z => nomatch z)⟩⟩
      exact ⟨_, rfl, rfl, C, dd, _, _, rfl, eC.xf, eC.nw, rfl, hd, look_w, _, rfl, rfl, C, dd, _, _, rfl, eC.xf, eC.nf, rfl, hd, look_f nw, by show 2 ≤ sizeLine; decide, fun p np => ⟨_, rfl, K1 p np⟩⟩
    · refine ⟨false, h1, (fun z => nomatch z), fun _ => ⟨false, h2, (fun z => nomatch z), fun _ => ⟨true, h3, fun _ a na => ?_, (fun z => nomatch z)⟩⟩⟩
      exact ⟨_, rfl, rfl, C, dd, _, _, rfl, eC.xf, eC.nw, rfl, hd, look_w, _, rfl, rfl, C, dd, _, _, rfl, eC.xf, eC.nf, rfl, hd, look_f nw, by show 2 ≤ sizeLine; decide, fun p np => ⟨_, rfl, K1 p np⟩⟩
end
end Wb
namespace Wb
open PySem PySem.Spec PyProof.Rows L2 RZ Sg Tm
theorem bx_extN {H H' : Hp} {b q : Addr} (s : LamX.ExtN H H') (B : Bx H b q) : Bx H' b q := by
  obtain ⟨ns, i, r, k, hb, hq, h⟩ := B
  exact ⟨ns, i, r, k, s _ _ hb (fun _ z => nomatch z), s _ _ hq (fun _ z => nomatch z), h⟩
theorem MW.extN {K : PySem.W.Frag} {H H' : Hp} {p a m : Addr} {n : Int} {As Ms : List TK} (s : LamX.ExtN H H') (h : MW K H p n a m As Ms) : MW K H' p n a m As Ms :=
  { h with tp := s _ _ h.tp (fun _ z => nomatch z), ha := s _ _ h.ha (fun _ z => nomatch z), hm := s _ _ h.hm (fun _ z => nomatch z), qa := fun z hz => extN_tup s (h.qa z hz), qm := fun z hz => extN_tup s (h.qm z hz) }
theorem GX.extN {H H' : Hp} {d : Addr} {f : List Key → List V} (s : LamX.ExtN H H') (g : GX H d f) : GX H' d f := by
  obtain ⟨kvs, e, h1, h2⟩ := g
  refine ⟨kvs, s _ _ e (fun _ z => nomatch z), h1, fun k v hv => ?_⟩
  obtain ⟨q, eq, hq⟩ := h2 k v hv
  exact ⟨q, eq, s _ _ hq (fun _ z => nomatch z)⟩
theorem WebAt.extN {C : Addr} {H H' : Hp} {x : Addr} {n : Int} {As Ms : List TK} (s : LamX.ExtN H H') (w : WebAt C H x n As Ms) : WebAt C H' x n As Ms := by
  obtain ⟨dx, pl, ar, mr, ow, bw, h1, h2, h3, h4, h5, Bs, h6, h7⟩ := w.ex
  exact ⟨dx, pl, ar, mr, ow, bw, s _ _ h1 (fun _ z => nomatch z), s _ _ h2 (fun _ z => nomatch z), s _ _ h3 (fun _ z => nomatch z), s _ _ h4 (fun _ z => nomatch z), h5.extN s, Bs, h6, h7.extN s⟩
theorem tabs_xt {T : List (Addr × Str)} {H H' : Hp} {b q : Addr} (B : Bx H b q) (x : Xt b H H') (t : LamX.Tabs T H) : LamX.Tabs T H' := by
  obtain ⟨xs, hb⟩ := bx_at B
  exact tabs_but hb x t
/-- _law_at(lambda: body) -/
theorem pe_at {X : Cx} {e : Ecs} {T : List (Addr × Str)} {g c PT : Addr} {fd : FuncData} {k : Nat} {params : Arguments} {body : Expr} {scope : Scope} {t : XK → TE} {p lpos pos : Pos} (F : Fun X.K "_law_at" "_law_at" sAt g fd) (hm : X.mg "_law_at" = some (.ref g)) (hb : Binds X.K fd ["_law_ask"] []) (G : AtG X.mg e) (hg : Gl X "_law_at") (TB : LamX.TabB X.base X.mg c PT) (hcode : X.env.code = .ref c) (hmT : (PT, X.env.qual ++ "<lambda>") ∈ T)
    (hu : ∀ p ∈ T, p.1 = PT → p.2 = X.env.qual ++ "<lambda>") (hr : Room (k + 2) X.A) (L : LamX.LamS X.env.scope scope) (hdef : defaultsOf params X.env = ([], [])) (hbind : ∀ (q : Str) (cl : List (Str × Addr)) (pm cv ctv : Value), bindArgs (PySem.W.kla_fn "<lambda>" q params body scope cl pm cv ctv) ⟨[], []⟩ = pure [])
    (hbody : ∀ (A : Around) (outer : List Env) (s : Shared) (H : Hp) (E : XK) (f c' : Addr), Room k (A.deeper (LamX.lamEnv X scope s.heap.objs.size f c')) → PE (LamX.lamCx X A outer s H E scope f c') body (t E)) :
    PE X (.Call (.Name "_law_at" p) [.Lambda params body scope lpos] [] pos) (LamX.tLam T (TAt X.K e) t) := by
  obtain ⟨oc, od, kV, doc, pm, an, cdv, ct, osl, rfl, lk, hcd⟩ := F.ex
  exact pe_lamcall2 hg hm F.kp lk hcd hb scAt rfl (.inl rfl) (at_gives G) TB hcode hmT hu hr L hdef hbind hbody
end Wb
namespace Wb
open PySem PySem.Spec PyProof.Rows L2 RZ Sg Tm
def goodA (n : Int) : List Key → Bool
  | [.inr z, .inl x, .inl y] => inV (.str z) (signsV "abc") && (decide (0 ≤ x) && decide (x < n)) && (decide (0 ≤ y) && decide (y < n))
  | _ => false
def goodM (n : Int) : List Key → Bool
  | [.inr z, .inl x] => inV (.str z) (signsV "pqr") && (decide (0 ≤ x) && decide (x < n))
  | _ => false
theorem goodA_eq (n : Int) (z : Str) (x y : Int) : goodA n [.inr z, .inl x, .inl y] = (inV (.str z) (signsV "abc") && (decide (0 ≤ x) && decide (x < n)) && (decide (0 ≤ y) && decide (y < n))) := rfl
theorem goodM_eq (n : Int) (z : Str) (x : Int) : goodM n [.inr z, .inl x] = (inV (.str z) (signsV "pqr") && (decide (0 ≤ x) && decide (x < n))) := rfl
theorem one_of {z : Str} {u v t : Nat} (h : inV (.str z) [.str ⟨#[u]⟩, .str ⟨#[v]⟩, .str ⟨#[t]⟩] = true) : ∃ c, z = ⟨#[c]⟩ ∧ (c = u ∨ c = v ∨ c = t) := by
  unfold inV at h
  simp only [List.any_cons, List.any_nil, Bool.or_false, Bool.or_eq_true, eqV, decide_eq_true_eq, beq_iff_eq] at h
  rcases h with h | h | h
  · exact ⟨u, by first | exact h.symm | exact (V.str.inj h).symm, .inl rfl⟩
  · exact ⟨v, by first | exact h.symm | exact (V.str.inj h).symm, .inr (.inl rfl)⟩
  · exact ⟨t, by first | exact h.symm | exact (V.str.inj h).symm, .inr (.inr rfl)⟩
theorem abc_eq : signsV "abc" = [.str ⟨#[97]⟩, .str ⟨#[98]⟩, .str ⟨#[99]⟩] := by decide +kernel
theorem pqr_eq : signsV "pqr" = [.str ⟨#[112]⟩, .str ⟨#[113]⟩, .str ⟨#[114]⟩] := by decide +kernel
theorem good_AK {n : Int} {z : Str} {x y : Int} (h : goodA n [.inr z, .inl x, .inl y] = true) : AK n [.inr z, .inl x, .inl y] := by
  rw [goodA_eq] at h
  simp only [Bool.and_eq_true, decide_eq_true_eq] at h
  obtain ⟨⟨h1, h2, h3⟩, h4, h5⟩ := h
  rw [abc_eq] at h1
  obtain ⟨c, rfl, hc⟩ := one_of h1
  exact ⟨c, x, y, rfl, hc, h2, h3, h4, h5⟩
theorem good_MK {n : Int} {z : Str} {x : Int} (h : goodM n [.inr z, .inl x] = true) : MK n [.inr z, .inl x] := by
  rw [goodM_eq] at h
  simp only [Bool.and_eq_true, decide_eq_true_eq] at h
  obtain ⟨h1, h2, h3⟩ := h
  rw [pqr_eq] at h1
  obtain ⟨c, rfl, hc⟩ := one_of h1
  exact ⟨c, x, rfl, hc, h2, h3⟩
theorem AK.good {n : Int} {k : List Key} (h : AK n k) : goodA n k = true := by
  obtain ⟨c, x, y, rfl, hc, h1, h2, h3, h4⟩ := h
  rw [goodA_eq, in_abc hc, decide_eq_true h1, decide_eq_true h2, decide_eq_true h3, decide_eq_true h4]
  rfl
theorem MK.good {n : Int} {k : List Key} (h : MK n k) : goodM n k = true := by
  obtain ⟨c, x, rfl, hc, h1, h2⟩ := h
  rw [goodM_eq, in_pqr hc, decide_eq_true h1, decide_eq_true h2]
  rfl
/-- the i-th of the ties is the first that is not good -/
def FirstBad (good : List Key → Bool) (ks : List TK) (i : Nat) : Prop := ∃ h : i < ks.length, (∀ p ∈ ks.take i, good p.2 = true) ∧ good ks[i].2 = false
section
variable {P : Program} {w : World} {K : PySem.W.Frag} {mg : Str → Option Value} {base : Heap}
def spRAX (K : PySem.W.Frag) (CE : Addr) : Sp := fun vs H Q E => ∃ n l ks, vs = [.int n, .ref l] ∧ TL K H l ks ∧ (∀ p ∈ ks, R3 p.2) ∧ ((∀ p ∈ ks, goodA n p.2 = true) → ∀ H', Same H H' → Q .non H') ∧
  (∀ i, FirstBad (goodA n) ks i → ∀ d H', H d = none → H' d = some (xdE "BadArrow" "at" (.int (i : Nat))) → Same H H' → E (.ref CE) (some d) H')
set_option maxHeartbeats 2000000 in
theorem ok_RAX {f CE fE : Addr} {fd dE : FuncData} {tk : Tok} (F : Fun K "refuse_bad_arrows" "refuse_bad_arrows" sRA f fd) (mli : mg "list" = none) (me : mg "enumerate" = none) (gC : mg "COLOURS" = some (.str "abc" tk)) (e : EDf P w K mg base "BadArrow" "at" CE fE dE) : FnOk P w K mg base (L2.CX P w) 3 f fd ["points", "arrows"] (spRAX K CE) := by
  refine F.okX scRA (fun vs H Q E h => ?_) (fun cdv A outer s H vs Q E hr h => ?_)
  · obtain ⟨n, l, ks, rfl, _⟩ := h
    rfl
  · obtain ⟨n, l, ks, rfl, hT, hR, K1, K2⟩ := h
    refine ⟨_, pss_cons (ps_set (i := 2) scRA.nd rfl (.inl rfl) (pe_callTy (cr_listS rfl) (by rfl) mli boot_list (pa_cons (pe_glob (v := .str "abc") (by rfl) gC ⟨_, rfl⟩) pa_nil)))
      (pss_one (ps_for (passes_of rfl) rfl (pi_enA (by rfl) me (pa_cons (pv 1) pa_nil)) (pg_tup rfl (pgs_cons (pg_name (i := 3) scRA.nd rfl (.inl rfl)) (pgs_cons (pg_tup rfl (pgs_cons (pg_name (i := 4) scRA.nd rfl (.inl rfl)) (pgs_cons (pg_name (i := 5) scRA.nd rfl (.inl rfl)) (pgs_cons (pg_name (i := 6) scRA.nd rfl (.inl rfl)) pgs_nil)))) pgs_nil)))
        (pss_one (ps_if (PW.pt (pw_or (pt_cmpR op_notIn_seq (pv 4) (pv 2) (by rfl)) (pw_or (pt_not (pt_chain op_le op_lt pe_int (pv 5) (pv 0))) (pw_or1 (pt_not (pt_chain op_le op_lt pe_int (pv 6) (pv 0))))))) (pss_one (ps_raise rfl (takes_of rfl rfl rfl rfl) (pmk_oex e.er.oe e.er.iC e.er.tI e.ok hr e.bd .nil pass0 (by rfl) e.gl (pa_cons (pv 3) pa_nil)))) pss_nil)))), ?_⟩
    refine seq_set ⟨_, rfl, by decide, fun p np => ?_⟩
    have s0 : Same H (upd H p (.lst (signsV "abc"))) := same_upd np
    have e0 : (upd H p (.lst (signsV "abc"))) p = some (.lst (signsV "abc")) := upd_same
    generalize upd H p (.lst (signsV "abc")) = H0 at s0 e0 ⊢
    rcases hT.1 with hS | hS
    · refine ⟨_, rfl, l, refs ks, rfl, .inl ⟨s0.seq hS, for_it (walk_enum (K := K) (a := l) (xs := refs ks)) (fun i σ J => ∃ y3 y4 y5 y6, σ = [some (.int n), some (.ref l), some (.ref p), y3, y4, y5, y6] ∧ Same H0 J ∧ ∀ q ∈ ks.take i, goodA n q.2 = true) ⟨_, _, _, _, rfl, Same.refl _, (fun q hq => nomatch hq)⟩ ?_ ?_ ?_⟩⟩
      · rintro i σ J _ ⟨y3, y4, y5, y6, rfl, sm, _⟩
        exact sm.seq (s0.seq hS)
      · rintro i v σ J J' hi ⟨y3, y4, y5, y6, rfl, sm, hg⟩ ⟨T, a1, a2, rfl, nT, rfl, e1, e2⟩
        cases e1
        have hik : i < ks.length := by
          rw [List.length_map] at hi
          exact hi
        have gi : (refs ks)[i]? = some (.ref ks[i].1) := by
          rw [List.getElem?_map, List.getElem?_eq_getElem hik]
          rfl
        cases e2.symm.trans gi
        have sT : Same J (upd J T (.tup [.int (i : Nat), .ref ks[i].1])) := same_upd nT
        have hm : ks[i] ∈ ks := List.getElem_mem hik
        have sq := same_tup (sm.trans sT) (same_tup s0 (hT.2 _ hm))
        obtain ⟨z, x, y, ek⟩ := hR _ hm
        rw [ek] at sq
        have bad : goodA n [.inr z, .inl x, .inl y] = false → ∀ {σ' : L2.St}, σ'[3]? = some (some (.int (i : Nat))) → tMkO CE (spE CE "at" "BadArrow") [] (tCons (tVar 3) tNil) σ' (upd J T (.tup [.int (i : Nat), .ref ks[i].1])) (fun cls d H' => E cls d H') := fun hb σ' h3 =>
          mkE (fun Q' q' => ⟨_, h3, q'⟩) fun d H' nd hd sm' => K2 i ⟨hik, hg, by rw [ek]; exact hb⟩ d H' (s0.free (sm.free (sT.free nd))) hd (((s0.trans sm).trans sT).trans sm')
        have nxt : goodA n [.inr z, .inl x, .inl y] = true → ∀ q ∈ ks.take (i + 1), goodA n q.2 = true := fun hb q hq => by
          rw [List.take_add_one, List.getElem?_eq_getElem hik] at hq
          rcases List.mem_append.mp hq with hq | hq
          · exact hg q hq
          · rw [List.mem_singleton.mp hq, ek]
            exact hb
        refine ⟨T, [.int (i : Nat), .ref ks[i].1], rfl, SqT.of upd_same, rfl, .int (i : Nat), [.ref ks[i].1], rfl, .ref ks[i].1, [], rfl, ⟨ks[i].1, [.str z, .int x, .int y], rfl, sq, rfl, .str z, [.int x, .int y], rfl, .int x, [.int y], rfl, .int y, [], rfl, rfl, rfl, ?_⟩⟩
        refine ⟨_, rfl, _, rfl, p, signsV "abc", rfl, .inl (SqL.of (sT _ _ (sm _ _ e0))), rfl, by decide +kernel, _, rfl, ?_⟩
        cases hin : inV (.str z) (signsV "abc") with
        | false => exact iteT (iteT (bad (by rw [goodA_eq, hin]; rfl) rfl))
        | true =>
          refine iteF ?_
          refine ⟨_, rfl, _, _, rfl, rfl, _, rfl, ?_⟩
          by_cases hx0 : (0 : Int) ≤ x
          · rw [decide_eq_true hx0]
            refine iteT ⟨_, rfl, _, _, rfl, rfl, _, rfl, ?_⟩
            by_cases hx1 : x < n
            · rw [decide_eq_true hx1]
              refine iteF ?_
              refine ⟨_, rfl, _, _, rfl, rfl, _, rfl, ?_⟩
              by_cases hy0 : (0 : Int) ≤ y
              · rw [decide_eq_true hy0]
                refine iteT ⟨_, rfl, _, _, rfl, rfl, _, rfl, ?_⟩
                by_cases hy1 : y < n
                · rw [decide_eq_true hy1]
                  refine iteF ?_
                  exact ⟨_, _, _, _, rfl, sm.trans sT, nxt (by rw [goodA_eq, hin, decide_eq_true hx0, decide_eq_true hx1, decide_eq_true hy0, decide_eq_true hy1]; rfl)⟩
                · rw [decide_eq_false hy1]
                  exact iteT (bad (by rw [goodA_eq, hin, decide_eq_false hy1]; simp) rfl)
              · rw [decide_eq_false hy0]
                exact ⟨_, rfl, iteT (bad (by rw [goodA_eq, hin, decide_eq_false hy0]; simp) rfl)⟩
            · rw [decide_eq_false hx1]
              exact iteT (iteT (bad (by rw [goodA_eq, hin, decide_eq_false hx1]; simp) rfl))
          · rw [decide_eq_false hx0]
            exact ⟨_, rfl, iteT (iteT (bad (by rw [goodA_eq, hin, decide_eq_false hx0]; simp) rfl))⟩
      · rintro σ J ⟨y3, y4, y5, y6, rfl, sm, hg⟩
        rw [List.length_map, List.take_length] at hg
        exact K1 hg J (s0.trans sm)
    · refine ⟨_, rfl, l, refs ks, rfl, .inr ⟨same_tup s0 hS, for_it (walk_enumT (K := K) (a := l) (xs := refs ks)) (fun i σ J => ∃ y3 y4 y5 y6, σ = [some (.int n), some (.ref l), some (.ref p), y3, y4, y5, y6] ∧ Same H0 J ∧ ∀ q ∈ ks.take i, goodA n q.2 = true) ⟨_, _, _, _, rfl, Same.refl _, (fun q hq => nomatch hq)⟩ ?_ ?_ ?_⟩⟩
      · rintro i σ J _ ⟨y3, y4, y5, y6, rfl, sm, _⟩
        exact same_tup sm (same_tup s0 hS)
      · rintro i v σ J J' hi ⟨y3, y4, y5, y6, rfl, sm, hg⟩ ⟨T, a1, a2, rfl, nT, rfl, e1, e2⟩
        cases e1
        have hik : i < ks.length := by
          rw [List.length_map] at hi
          exact hi
        have gi : (refs ks)[i]? = some (.ref ks[i].1) := by
          rw [List.getElem?_map, List.getElem?_eq_getElem hik]
          rfl
        cases e2.symm.trans gi
        have sT : Same J (upd J T (.tup [.int (i : Nat), .ref ks[i].1])) := same_upd nT
        have hm : ks[i] ∈ ks := List.getElem_mem hik
        have sq := same_tup (sm.trans sT) (same_tup s0 (hT.2 _ hm))
        obtain ⟨z, x, y, ek⟩ := hR _ hm
        rw [ek] at sq
        have bad : goodA n [.inr z, .inl x, .inl y] = false → ∀ {σ' : L2.St}, σ'[3]? = some (some (.int (i : Nat))) → tMkO CE (spE CE "at" "BadArrow") [] (tCons (tVar 3) tNil) σ' (upd J T (.tup [.int (i : Nat), .ref ks[i].1])) (fun cls d H' => E cls d H') := fun hb σ' h3 =>
          mkE (fun Q' q' => ⟨_, h3, q'⟩) fun d H' nd hd sm' => K2 i ⟨hik, hg, by rw [ek]; exact hb⟩ d H' (s0.free (sm.free (sT.free nd))) hd (((s0.trans sm).trans sT).trans sm')
        have nxt : goodA n [.inr z, .inl x, .inl y] = true → ∀ q ∈ ks.take (i + 1), goodA n q.2 = true := fun hb q hq => by
          rw [List.take_add_one, List.getElem?_eq_getElem hik] at hq
          rcases List.mem_append.mp hq with hq | hq
          · exact hg q hq
          · rw [List.mem_singleton.mp hq, ek]
            exact hb
        refine ⟨T, [.int (i : Nat), .ref ks[i].1], rfl, SqT.of upd_same, rfl, .int (i : Nat), [.ref ks[i].1], rfl, .ref ks[i].1, [], rfl, ⟨ks[i].1, [.str z, .int x, .int y], rfl, sq, rfl, .str z, [.int x, .int y], rfl, .int x, [.int y], rfl, .int y, [], rfl, rfl, rfl, ?_⟩⟩
        refine ⟨_, rfl, _, rfl, p, signsV "abc", rfl, .inl (SqL.of (sT _ _ (sm _ _ e0))), rfl, by decide +kernel, _, rfl, ?_⟩
        cases hin : inV (.str z) (signsV "abc") with
        | false => exact iteT (iteT (bad (by rw [goodA_eq, hin]; rfl) rfl))
        | true =>
          refine iteF ?_
          refine ⟨_, rfl, _, _, rfl, rfl, _, rfl, ?_⟩
          by_cases hx0 : (0 : Int) ≤ x
          · rw [decide_eq_true hx0]
            refine iteT ⟨_, rfl, _, _, rfl, rfl, _, rfl, ?_⟩
            by_cases hx1 : x < n
            · rw [decide_eq_true hx1]
              refine iteF ?_
              refine ⟨_, rfl, _, _, rfl, rfl, _, rfl, ?_⟩
              by_cases hy0 : (0 : Int) ≤ y
              · rw [decide_eq_true hy0]
                refine iteT ⟨_, rfl, _, _, rfl, rfl, _, rfl, ?_⟩
                by_cases hy1 : y < n
                · rw [decide_eq_true hy1]
                  refine iteF ?_
                  exact ⟨_, _, _, _, rfl, sm.trans sT, nxt (by rw [goodA_eq, hin, decide_eq_true hx0, decide_eq_true hx1, decide_eq_true hy0, decide_eq_true hy1]; rfl)⟩
                · rw [decide_eq_false hy1]
                  exact iteT (bad (by rw [goodA_eq, hin, decide_eq_false hy1]; simp) rfl)
              · rw [decide_eq_false hy0]
                exact ⟨_, rfl, iteT (bad (by rw [goodA_eq, hin, decide_eq_false hy0]; simp) rfl)⟩
            · rw [decide_eq_false hx1]
              exact iteT (iteT (bad (by rw [goodA_eq, hin, decide_eq_false hx1]; simp) rfl))
          · rw [decide_eq_false hx0]
            exact ⟨_, rfl, iteT (iteT (bad (by rw [goodA_eq, hin, decide_eq_false hx0]; simp) rfl))⟩
      · rintro σ J ⟨y3, y4, y5, y6, rfl, sm, hg⟩
        rw [List.length_map, List.take_length] at hg
        exact K1 hg J (s0.trans sm)
def R2' (k : List Key) : Prop := ∃ (z : Str) (x : Int), k = [.inr z, .inl x]
def spRMX (K : PySem.W.Frag) (CE : Addr) : Sp := fun vs H Q E => ∃ n l ks, vs = [.int n, .ref l] ∧ TL K H l ks ∧ (∀ p ∈ ks, R2' p.2) ∧ ((∀ p ∈ ks, goodM n p.2 = true) → ∀ H', Same H H' → Q .non H') ∧
  (∀ i, FirstBad (goodM n) ks i → ∀ d H', H d = none → H' d = some (xdE "BadMark" "at" (.int (i : Nat))) → Same H H' → E (.ref CE) (some d) H')
set_option maxHeartbeats 2000000 in
theorem ok_RMX {f CE fE : Addr} {fd dE : FuncData} {tk : Tok} (F : Fun K "refuse_bad_marks" "refuse_bad_marks" sRM f fd) (mli : mg "list" = none) (me : mg "enumerate" = none) (gC : mg "MARKS" = some (.str "pqr" tk)) (e : EDf P w K mg base "BadMark" "at" CE fE dE) : FnOk P w K mg base (L2.CX P w) 3 f fd ["points", "marks"] (spRMX K CE) := by
  refine F.okX scRM (fun vs H Q E h => ?_) (fun cdv A outer s H vs Q E hr h => ?_)
  · obtain ⟨n, l, ks, rfl, _⟩ := h
    rfl
  · obtain ⟨n, l, ks, rfl, hT, hR, K1, K2⟩ := h
    refine ⟨_, pss_cons (ps_set (i := 2) scRM.nd rfl (.inl rfl) (pe_callTy (cr_listS rfl) (by rfl) mli boot_list (pa_cons (pe_glob (v := .str "pqr") (by rfl) gC ⟨_, rfl⟩) pa_nil)))
      (pss_one (ps_for (passes_of rfl) rfl (pi_enA (by rfl) me (pa_cons (pv 1) pa_nil)) (pg_tup rfl (pgs_cons (pg_name (i := 3) scRM.nd rfl (.inl rfl)) (pgs_cons (pg_tup rfl (pgs_cons (pg_name (i := 4) scRM.nd rfl (.inl rfl)) (pgs_cons (pg_name (i := 5) scRM.nd rfl (.inl rfl)) pgs_nil))) pgs_nil)))
        (pss_one (ps_if (PW.pt (pw_or (pt_cmpR op_notIn_seq (pv 4) (pv 2) (by rfl)) (pw_or1 (pt_not (pt_chain op_le op_lt pe_int (pv 5) (pv 0)))))) (pss_one (ps_raise rfl (takes_of rfl rfl rfl rfl) (pmk_oex e.er.oe e.er.iC e.er.tI e.ok hr e.bd .nil pass0 (by rfl) e.gl (pa_cons (pv 3) pa_nil)))) pss_nil)))), ?_⟩
    refine seq_set ⟨_, rfl, by decide, fun p np => ?_⟩
    have s0 : Same H (upd H p (.lst (signsV "pqr"))) := same_upd np
    have e0 : (upd H p (.lst (signsV "pqr"))) p = some (.lst (signsV "pqr")) := upd_same
    generalize upd H p (.lst (signsV "pqr")) = H0 at s0 e0 ⊢
    rcases hT.1 with hS | hS
    · refine ⟨_, rfl, l, refs ks, rfl, .inl ⟨s0.seq hS, for_it (walk_enum (K := K) (a := l) (xs := refs ks)) (fun i σ J => ∃ y3 y4 y5, σ = [some (.int n), some (.ref l), some (.ref p), y3, y4, y5] ∧ Same H0 J ∧ ∀ q ∈ ks.take i, goodM n q.2 = true) ⟨_, _, _, rfl, Same.refl _, (fun q hq => nomatch hq)⟩ ?_ ?_ ?_⟩⟩
      · rintro i σ J _ ⟨y3, y4, y5, rfl, sm, _⟩
        exact sm.seq (s0.seq hS)
      · rintro i v σ J J' hi ⟨y3, y4, y5, rfl, sm, hg⟩ ⟨T, a1, a2, rfl, nT, rfl, e1, e2⟩
        cases e1
        have hik : i < ks.length := by
          rw [List.length_map] at hi
          exact hi
        have gi : (refs ks)[i]? = some (.ref ks[i].1) := by
          rw [List.getElem?_map, List.getElem?_eq_getElem hik]
          rfl
        cases e2.symm.trans gi
        have sT : Same J (upd J T (.tup [.int (i : Nat), .ref ks[i].1])) := same_upd nT
        have hm : ks[i] ∈ ks := List.getElem_mem hik
        have sq := same_tup (sm.trans sT) (same_tup s0 (hT.2 _ hm))
        obtain ⟨z, x, ek⟩ := hR _ hm
        rw [ek] at sq
        have bad : goodM n [.inr z, .inl x] = false → ∀ {σ' : L2.St}, σ'[3]? = some (some (.int (i : Nat))) → tMkO CE (spE CE "at" "BadMark") [] (tCons (tVar 3) tNil) σ' (upd J T (.tup [.int (i : Nat), .ref ks[i].1])) (fun cls d H' => E cls d H') := fun hb σ' h3 =>
          mkE (fun Q' q' => ⟨_, h3, q'⟩) fun d H' nd hd sm' => K2 i ⟨hik, hg, by rw [ek]; exact hb⟩ d H' (s0.free (sm.free (sT.free nd))) hd (((s0.trans sm).trans sT).trans sm')
        have nxt : goodM n [.inr z, .inl x] = true → ∀ q ∈ ks.take (i + 1), goodM n q.2 = true := fun hb q hq => by
          rw [List.take_add_one, List.getElem?_eq_getElem hik] at hq
          rcases List.mem_append.mp hq with hq | hq
          · exact hg q hq
          · rw [List.mem_singleton.mp hq, ek]
            exact hb
        refine ⟨T, [.int (i : Nat), .ref ks[i].1], rfl, SqT.of upd_same, rfl, .int (i : Nat), [.ref ks[i].1], rfl, .ref ks[i].1, [], rfl, ⟨ks[i].1, [.str z, .int x], rfl, sq, rfl, .str z, [.int x], rfl, .int x, [], rfl, rfl, rfl, ?_⟩⟩
        refine ⟨_, rfl, _, rfl, p, signsV "pqr", rfl, .inl (SqL.of (sT _ _ (sm _ _ e0))), rfl, by decide +kernel, _, rfl, ?_⟩
        cases hin : inV (.str z) (signsV "pqr") with
        | false => exact iteT (iteT (bad (by rw [goodM_eq, hin]; rfl) rfl))
        | true =>
          refine iteF ?_
          refine ⟨_, rfl, _, _, rfl, rfl, _, rfl, ?_⟩
          by_cases hx0 : (0 : Int) ≤ x
          · rw [decide_eq_true hx0]
            refine iteT ⟨_, rfl, _, _, rfl, rfl, _, rfl, ?_⟩
            by_cases hx1 : x < n
            · rw [decide_eq_true hx1]
              refine iteF ?_
              exact ⟨_, _, _, rfl, sm.trans sT, nxt (by rw [goodM_eq, hin, decide_eq_true hx0, decide_eq_true hx1]; rfl)⟩
            · rw [decide_eq_false hx1]
              exact iteT (bad (by rw [goodM_eq, hin, decide_eq_false hx1]; simp) rfl)
          · rw [decide_eq_false hx0]
            exact ⟨_, rfl, iteT (bad (by rw [goodM_eq, hin, decide_eq_false hx0]; simp) rfl)⟩
      · rintro σ J ⟨y3, y4, y5, rfl, sm, hg⟩
        rw [List.length_map, List.take_length] at hg
        exact K1 hg J (s0.trans sm)
    · refine ⟨_, rfl, l, refs ks, rfl, .inr ⟨same_tup s0 hS, for_it (walk_enumT (K := K) (a := l) (xs := refs ks)) (fun i σ J => ∃ y3 y4 y5, σ = [some (.int n), some (.ref l), some (.ref p), y3, y4, y5] ∧ Same H0 J ∧ ∀ q ∈ ks.take i, goodM n q.2 = true) ⟨_, _, _, rfl, Same.refl _, (fun q hq => nomatch hq)⟩ ?_ ?_ ?_⟩⟩
      · rintro i σ J _ ⟨y3, y4, y5, rfl, sm, _⟩
        exact same_tup sm (same_tup s0 hS)
      · rintro i v σ J J' hi ⟨y3, y4, y5, rfl, sm, hg⟩ ⟨T, a1, a2, rfl, nT, rfl, e1, e2⟩
        cases e1
        have hik : i < ks.length := by
          rw [List.length_map] at hi
          exact hi
        have gi : (refs ks)[i]? = some (.ref ks[i].1) := by
          rw [List.getElem?_map, List.getElem?_eq_getElem hik]
          rfl
        cases e2.symm.trans gi
        have sT : Same J (upd J T (.tup [.int (i : Nat), .ref ks[i].1])) := same_upd nT
        have hm : ks[i] ∈ ks := List.getElem_mem hik
        have sq := same_tup (sm.trans sT) (same_tup s0 (hT.2 _ hm))
        obtain ⟨z, x, ek⟩ := hR _ hm
        rw [ek] at sq
        have bad : goodM n [.inr z, .inl x] = false → ∀ {σ' : L2.St}, σ'[3]? = some (some (.int (i : Nat))) → tMkO CE (spE CE "at" "BadMark") [] (tCons (tVar 3) tNil) σ' (upd J T (.tup [.int (i : Nat), .ref ks[i].1])) (fun cls d H' => E cls d H') := fun hb σ' h3 =>
          mkE (fun Q' q' => ⟨_, h3, q'⟩) fun d H' nd hd sm' => K2 i ⟨hik, hg, by rw [ek]; exact hb⟩ d H' (s0.free (sm.free (sT.free nd))) hd (((s0.trans sm).trans sT).trans sm')
        have nxt : goodM n [.inr z, .inl x] = true → ∀ q ∈ ks.take (i + 1), goodM n q.2 = true := fun hb q hq => by
          rw [List.take_add_one, List.getElem?_eq_getElem hik] at hq
          rcases List.mem_append.mp hq with hq | hq
          · exact hg q hq
          · rw [List.mem_singleton.mp hq, ek]
            exact hb
        refine ⟨T, [.int (i : Nat), .ref ks[i].1], rfl, SqT.of upd_same, rfl, .int (i : Nat), [.ref ks[i].1], rfl, .ref ks[i].1, [], rfl, ⟨ks[i].1, [.str z, .int x], rfl, sq, rfl, .str z, [.int x], rfl, .int x, [], rfl, rfl, rfl, ?_⟩⟩
        refine ⟨_, rfl, _, rfl, p, signsV "pqr", rfl, .inl (SqL.of (sT _ _ (sm _ _ e0))), rfl, by decide +kernel, _, rfl, ?_⟩
        cases hin : inV (.str z) (signsV "pqr") with
        | false => exact iteT (iteT (bad (by rw [goodM_eq, hin]; rfl) rfl))
        | true =>
          refine iteF ?_
          refine ⟨_, rfl, _, _, rfl, rfl, _, rfl, ?_⟩
          by_cases hx0 : (0 : Int) ≤ x
          · rw [decide_eq_true hx0]
            refine iteT ⟨_, rfl, _, _, rfl, rfl, _, rfl, ?_⟩
            by_cases hx1 : x < n
            · rw [decide_eq_true hx1]
              refine iteF ?_
              exact ⟨_, _, _, rfl, sm.trans sT, nxt (by rw [goodM_eq, hin, decide_eq_true hx0, decide_eq_true hx1]; rfl)⟩
            · rw [decide_eq_false hx1]
              exact iteT (bad (by rw [goodM_eq, hin, decide_eq_false hx1]; simp) rfl)
          · rw [decide_eq_false hx0]
            exact ⟨_, rfl, iteT (bad (by rw [goodM_eq, hin, decide_eq_false hx0]; simp) rfl)⟩
      · rintro σ J ⟨y3, y4, y5, rfl, sm, hg⟩
        rw [List.length_map, List.take_length] at hg
        exact K1 hg J (s0.trans sm)
end
end Wb
namespace Wb
open PySem PySem.Spec PyProof.Rows L2 RZ Sg Tm
def ErrTo (H : Hp) (E : XK) (C : Addr) (x f : Str) (v : V) : Prop := ∀ d H', H d = none → H' d = some (xdE x f v) → Same H H' → E (.ref C) (some d) H'
section
variable {P : Program} {w : World} {K : PySem.W.Frag} {mg : Str → Option Value} {base : Heap}
def spInitX (K : PySem.W.Frag) (C : Addr) (e : Ecs) : Sp := fun vs H Q E => ∃ x dx n la lm ka km, vs = [.ref x, .int n, .ref la, .ref lm] ∧ H x = some (.ins C dx []) ∧ TL K H la ka ∧ (∀ p ∈ ka, R3 p.2) ∧ ka.length < 64 ∧ TL K H lm km ∧ (∀ p ∈ km, R2' p.2) ∧ km.length < 64 ∧
  (0 ≤ n ∧ n ≤ 81 → (∀ p ∈ ka, goodA n p.2 = true) → (∀ p ∈ km, goodM n p.2 = true) → ∀ H' As Ms, WebOwn C H H' x n As Ms → Srt ka As → Srt km Ms → Xt x H H' → Q .non H') ∧
  (¬ (0 ≤ n ∧ n ≤ 81) → ErrTo H E e.sz "BadSize" "number" (.int n)) ∧ (0 ≤ n ∧ n ≤ 81 → ∀ i : Nat, FirstBad (goodA n) ka i → ErrTo H E e.ba "BadArrow" "at" (.int (i : Nat))) ∧
  (0 ≤ n ∧ n ≤ 81 → (∀ p ∈ ka, goodA n p.2 = true) → ∀ i : Nat, FirstBad (goodM n) km i → ErrTo H E e.bm "BadMark" "at" (.int (i : Nat)))
theorem all_or_first (good : List Key → Bool) (ks : List TK) : (∀ p ∈ ks, good p.2 = true) ∨ ∃ i, FirstBad good ks i := by
  cases h : ks.findIdx? (fun p => !good p.2) with
  | none =>
    refine .inl fun p hp => ?_
    have := List.findIdx?_eq_none_iff.mp h p hp
    simpa using this
  | some i =>
    obtain ⟨hi, h1, h2⟩ := List.findIdx?_eq_some_iff_getElem.mp h
    refine .inr ⟨i, hi, fun p hp => ?_, by simpa using h1⟩
    obtain ⟨j, hj, rfl⟩ := List.mem_take_iff_getElem.mp hp
    have := h2 j (by omega)
    simpa using this
theorem good_all_A {n : Int} {ks : List TK} (hr : ∀ p ∈ ks, R3 p.2) (h : ∀ p ∈ ks, goodA n p.2 = true) : ∀ p ∈ ks, AK n p.2 := fun p hp => by
  obtain ⟨z, x, y, e⟩ := hr p hp
  have := h p hp
  rw [e] at this ⊢
  exact good_AK this
theorem good_all_M {n : Int} {ks : List TK} (hr : ∀ p ∈ ks, R2' p.2) (h : ∀ p ∈ ks, goodM n p.2 = true) : ∀ p ∈ ks, MK n p.2 := fun p hp => by
  obtain ⟨z, x, e⟩ := hr p hp
  have := h p hp
  rw [e] at this ⊢
  exact good_MK this
theorem not_first {good : List Key → Bool} {ks : List TK} {i : Nat} (h : ∀ p ∈ ks, good p.2 = true) (f : FirstBad good ks i) : False := by
  obtain ⟨hi, _, hb⟩ := f
  rw [h _ (List.getElem_mem hi)] at hb
  cases hb
set_option maxHeartbeats 4000000 in
theorem ok_initX {f C fA fM fG fS : Addr} {fd dA dM dG dS : FuncData} {e : Ecs} {dvs : List V} {kws : List (Str × V)} (F : FunD K "__init__" "Web.__init__" (defArgs sInit) (defBody sInit) (defScope sInit) dvs kws f fd) (T : WT K mg C) (eS : EDf P w K mg base "BadSize" "number" e.sz fS dS) (oA : DfX P w K mg base 3 "refuse_bad_arrows" ["points", "arrows"] (spRAX K e.ba) fA dA)
    (oM : DfX P w K mg base 3 "refuse_bad_marks" ["points", "marks"] (spRMX K e.bm) fM dM) (oG : Df P w K mg base 1 "gathered" ["rows"] (spGat K) fG dG) : FnOk P w K mg base (L2.CX P w) 4 f fd ["self", "points", "arrows", "marks"] (spInitX K C e) := by
  obtain ⟨tkM, gM⟩ := T.most
  refine F.ok scI (fun vs H Q E h => ?_) (fun cdv A outer s H vs Q E hr h => ?_)
  · obtain ⟨x, dx, n, la, lm, ka, km, rfl, _⟩ := h
    rfl
  · obtain ⟨x, dx, n, la, lm, ka, km, rfl, hx, ta, ra, la64, tm, rm, lm64, K1, KS, KA, KM⟩ := h
    have hu : (A.deeper (envOfC "Web.__init__" (defScope sInit) s.heap.objs.size f cdv)).units + 64 < cLine := by
      have := hr.un
      omega
    refine ⟨_, (pss_cons (ps_if (pt_not (pt_chain op_le op_le pe_int (pv 1) (pe_glob (v := .int 81) (by rfl) gM ⟨_, rfl⟩))) (pss_one (ps_raise rfl (takes_of rfl rfl rfl rfl) (pmk_oex eS.er.oe eS.er.iC eS.er.tI eS.ok (hr.mono (by decide)) eS.bd .nil pass0 (by rfl) eS.gl (pa_cons (pv 1) pa_nil)))) pss_nil)
      (pss_cons (ps_expr (pe_call oA.ok hr (by rfl) oA.gl oA.kp oA.bd .nil (passE rfl rfl rfl rfl) (pa_cons (pv 1) (pa_cons (pv 2) pa_nil))))
      (pss_cons (ps_expr (pe_call oM.ok hr (by rfl) oM.gl oM.kp oM.bd .nil (passE rfl rfl rfl rfl) (pa_cons (pv 1) (pa_cons (pv 3) pa_nil))))
      (pss_cons (ps_fld (pv 0) (pe_listRg rfl (by rfl) T.list (prg_1 (by rfl) T.range (pv 1))) rfl)
      (pss_cons (ps_fld (pv 0) (pe_callB (cr_sortX rfl) (by rfl) T.sorted (by decide +kernel) (pa_cons (pe_callTy (cr_setX rfl hu) (by rfl) T.set (by decide +kernel) (pa_cons (pv 2) pa_nil)) pa_nil)) rfl)
      (pss_cons (ps_fld (pv 0) (pe_callB (cr_sortX rfl) (by rfl) T.sorted (by decide +kernel) (pa_cons (pe_callTy (cr_setX rfl hu) (by rfl) T.set (by decide +kernel) (pa_cons (pv 3) pa_nil)) pa_nil)) rfl)
      (pss_cons (ps_fld (pv 0) (pe_call oG.ok (hr.mono (by decide)) (by rfl) oG.gl oG.kp oG.bd .nil pass0 (pa_cons (pe_fld (pv 0) rfl) pa_nil)) rfl)
      (pss_one (ps_fld (pv 0) (pe_call oG.ok (hr.mono (by decide)) (by rfl) oG.gl oG.kp oG.bd .nil pass0 (pa_cons
        (pe_lc (own := [("colour", 4), ("start", 5), ("end", 6)]) (g := gTup K 3 (gCons (gName 4) (gCons (gName 5) (gCons (gName 6) gNil)))) (tt := tYes) rfl scI.nd (pi_list (pe_fld (pv 0) rfl)) (blkOk_by (N := NI) (sc := defScope sInit) (by decide +kernel))
          (fun _ _ _ _ _ => pg_tup rfl (pgs_cons (pg_name (i := 4) scI.nd rfl (.inl rfl)) (pgs_cons (pg_name (i := 5) scI.nd rfl (.inl rfl)) (pgs_cons (pg_name (i := 6) scI.nd rfl (.inl rfl)) pgs_nil)))) (fun _ _ _ _ _ => pts_nil)
          (fun _ _ _ _ _ => pe_tup (pa_cons (pv 4) (pa_cons (pv 6) (pa_cons (pv 5) pa_nil)))))
        pa_nil)) rfl))))))))), ?_⟩
    refine seq_if ⟨_, rfl, _, _, rfl, rfl, _, rfl, ?_⟩
    by_cases n0 : (0 : Int) ≤ n
    case neg =>
      rw [decide_eq_false n0]
      exact ⟨_, rfl, iteT (mkE (fun Q' q' => ⟨_, rfl, q'⟩) fun d H' nd hd sm => KS (fun z => n0 z.1) d H' nd hd sm)⟩
    rw [decide_eq_true n0]
    refine iteT ⟨_, _, rfl, rfl, _, rfl, ?_⟩
    by_cases n1 : n ≤ (81 : Int)
    case neg =>
      rw [decide_eq_false n1]
      exact iteT (mkE (fun Q' q' => ⟨_, rfl, q'⟩) fun d H' nd hd sm => KS (fun z => n1 z.2) d H' nd hd sm)
    rw [decide_eq_true n1]
    refine iteF ?_
    refine seq_next ?_
    refine seq_drop ⟨_, rfl, _, rfl, n, la, ka, rfl, ta, ra, fun gA H1 s1 => ?_, fun i fb d H' nd hd sm => KA ⟨n0, n1⟩ i fb d H' nd hd sm⟩
    refine seq_drop ⟨_, rfl, _, rfl, n, lm, km, rfl, tm.same s1, rm, fun gM' H2 s2 => ?_, fun i fb d H' nd hd sm => KM ⟨n0, n1⟩ gA i fb d H' (s1.free nd) hd (s1.trans sm)⟩
    have ga := good_all_A ra gA
    have gm := good_all_M rm gM'
    have KQ := K1 ⟨n0, n1⟩ gA gM'
    have hx2 := s2 _ _ (s1 _ _ hx)
    have ta2 := (ta.same s1).same s2
    have tm2 := (tm.same s1).same s2
    have x2 : Xt x H H2 := Same.xt (s1.trans s2)
    generalize H2 = J at hx2 ta2 tm2 x2 ⊢
    clear s1 s2 ta tm
    refine seq_fld ⟨_, rfl, n, rfl, RgOk.of_le (Int.le_refl 0) (by omega) (by decide) n0, fun pl npl => ⟨_, rfl, x, C, dx, [], rfl, same_upd npl _ _ hx2, T.cl, T.n1, by decide, ?_⟩⟩
    have dpl : pl ≠ x := (ne_of_none hx2 npl).symm
    have fpl : H pl = none := x2.free dpl npl
    have x3 : Xt x H (upd (upd J pl (.lst (rgV 0 n))) x (.ins C dx (putF "places" (.ref pl) []))) := (x2.new npl).put
    have h3x : (upd (upd J pl (.lst (rgV 0 n))) x (.ins C dx (putF "places" (.ref pl) []))) x = some (.ins C dx (putF "places" (.ref pl) [])) := upd_same
    have h3p : (upd (upd J pl (.lst (rgV 0 n))) x (.ins C dx (putF "places" (.ref pl) []))) pl = some (.lst (rgV 0 n)) := by
      rw [upd_ne dpl]
      exact upd_same
    have ta3 : TL K (upd (upd J pl (.lst (rgV 0 n))) x (.ins C dx (putF "places" (.ref pl) []))) la ka := ta2.xt (((Xt.refl x J).new npl).put) hx2
    have tm3 : TL K (upd (upd J pl (.lst (rgV 0 n))) x (.ins C dx (putF "places" (.ref pl) []))) lm km := tm2.xt (((Xt.refl x J).new npl).put) hx2
    generalize upd (upd J pl (.lst (rgV 0 n))) x (.ins C dx (putF "places" (.ref pl) [])) = J3 at x3 h3x h3p ta3 tm3 ⊢
    refine seq_fld (read_ss rfl ta3 la64 (fun p hp => (ga p hp).tie (by omega)) fun As ar J4 sA s4 nar har => ⟨_, rfl, x, C, dx, _, rfl, s4 _ _ h3x, T.cl, T.n2, (show (1 : Nat) < 1000 by decide), ?_⟩)
    have dar : ar ≠ x := (ne_of_none h3x nar).symm
    have far : H ar = none := x3.free dar nar
    have y4 : Xt x J3 (upd J4 x (.ins C dx (putF "arrow_rows" (.ref ar) (putF "places" (.ref pl) [])))) := (Same.xt s4).put
    have h5x : (upd J4 x (.ins C dx (putF "arrow_rows" (.ref ar) (putF "places" (.ref pl) [])))) x = some (.ins C dx (putF "arrow_rows" (.ref ar) (putF "places" (.ref pl) []))) := upd_same
    have h5a : (upd J4 x (.ins C dx (putF "arrow_rows" (.ref ar) (putF "places" (.ref pl) [])))) ar = some (.lst (refs As)) := by
      rw [upd_ne dar]
      exact har
    generalize upd J4 x (.ins C dx (putF "arrow_rows" (.ref ar) (putF "places" (.ref pl) []))) = J5 at y4 h5x h5a ⊢
    have x5 := x3.trans y4
    have h5p := y4 _ _ dpl h3p
    have tm5 := tm3.xt y4 h3x
    have ta5 := ta3.xt y4 h3x
    clear ta3 tm3 x3 y4 s4 h3x h3p nar
    refine seq_fld (read_ss rfl tm5 lm64 (fun p hp => (gm p hp).tie (by omega)) fun Ms mr J6 sM s6 nmr hmr => ⟨_, rfl, x, C, dx, _, rfl, s6 _ _ h5x, T.cl, T.n3, (show (2 : Nat) < 1000 by decide), ?_⟩)
    have dmr : mr ≠ x := (ne_of_none h5x nmr).symm
    have fmr : H mr = none := x5.free dmr nmr
    have y6 : Xt x J5 (upd J6 x (.ins C dx (putF "mark_rows" (.ref mr) (putF "arrow_rows" (.ref ar) (putF "places" (.ref pl) []))))) := (Same.xt s6).put
    have h7x : (upd J6 x (.ins C dx (putF "mark_rows" (.ref mr) (putF "arrow_rows" (.ref ar) (putF "places" (.ref pl) []))))) x = some (.ins C dx (putF "mark_rows" (.ref mr) (putF "arrow_rows" (.ref ar) (putF "places" (.ref pl) [])))) := upd_same
    have h7m : (upd J6 x (.ins C dx (putF "mark_rows" (.ref mr) (putF "arrow_rows" (.ref ar) (putF "places" (.ref pl) []))))) mr = some (.lst (refs Ms)) := by
      rw [upd_ne dmr]
      exact hmr
    generalize upd J6 x (.ins C dx (putF "mark_rows" (.ref mr) (putF "arrow_rows" (.ref ar) (putF "places" (.ref pl) [])))) = J7 at y6 h7x h7m ⊢
    have x7 := x5.trans y6
    have h7p := y6 _ _ dpl h5p
    have h7a := y6 _ _ dar h5a
    have ta7 := ta5.xt y6 h5x
    clear tm5 ta5 x5 y6 s6 h5x h5p h5a nmr hmr
    have hAs : ∀ p ∈ As, SqT K J7 p.1 (p.2.map kV) ∧ R3 p.2 := fun p hp => ⟨ta7.2 p (sA.of p hp), (ga p (sA.of p hp)).r3⟩
    have lA : As.length < 64 := Nat.lt_of_le_of_lt sA.len la64
    refine seq_fld ⟨_, rfl, x, C, dx, _, _, rfl, h7x, T.cl, T.n2, rfl, ar, As, rfl, SqL.of h7a, hAs, by omega, fun ow J8 s8 gd => ⟨_, rfl, x, C, dx, _, rfl, s8 _ _ h7x, T.cl, T.n4, (show (3 : Nat) < 1000 by decide), ?_⟩⟩
    have dow : ow ≠ x := (ne_of_none h7x gd.nd).symm
    have gx8 : GXn H J8 ow (gat As) := gd.gxn x7 h7x
    have nx : ∀ c, H c = none → c ≠ x := fun c hc => (ne_of_none hx hc).symm
    have y8 : Xt x J7 (upd J8 x (.ins C dx (putF "onward" (.ref ow) (putF "mark_rows" (.ref mr) (putF "arrow_rows" (.ref ar) (putF "places" (.ref pl) [])))))) := (Same.xt s8).put
    have h9x : (upd J8 x (.ins C dx (putF "onward" (.ref ow) (putF "mark_rows" (.ref mr) (putF "arrow_rows" (.ref ar) (putF "places" (.ref pl) [])))))) x = some (.ins C dx (putF "onward" (.ref ow) (putF "mark_rows" (.ref mr) (putF "arrow_rows" (.ref ar) (putF "places" (.ref pl) []))))) := upd_same
    have gx9 : GXn H (upd J8 x (.ins C dx (putF "onward" (.ref ow) (putF "mark_rows" (.ref mr) (putF "arrow_rows" (.ref ar) (putF "places" (.ref pl) [])))))) ow (gat As) := gx8.keep fun c o hc e => (Xt.refl x J8).put c o (nx c hc) e
    generalize upd J8 x (.ins C dx (putF "onward" (.ref ow) (putF "mark_rows" (.ref mr) (putF "arrow_rows" (.ref ar) (putF "places" (.ref pl) []))))) = J9 at y8 h9x gx9 ⊢
    have x9 := x7.trans y8
    have h9p := y8 _ _ dpl h7p
    have h9a := y8 _ _ dar h7a
    have h9m := y8 _ _ dmr h7m
    have hA9 : ∀ p ∈ As, SqT K J9 p.1 (p.2.map kV) ∧ R3 p.2 := fun p hp => ⟨xt_tup y8 h7x (hAs p hp).1, (hAs p hp).2⟩
    clear x7 y8 h7x h7p h7a h7m ta7 hAs gx8 gd s8
    refine ⟨_, rfl, x, C, dx, _, _, rfl, h9x, T.cl, T.n2, rfl, ar, rfl, ⟨_, SqL.of h9a⟩, fun D nD => ?_⟩
    refine lc_list (xs := refs As) (fun i J => ∃ Bs : List TK, J D = some (.lst (refs Bs)) ∧ Bs.map (·.2) = (As.take i).map (fun p => swK p.2) ∧ (∀ p ∈ Bs, SqT K J p.1 (p.2.map kV) ∧ R3 p.2) ∧ Same J9 J) ⟨[], upd_same, rfl, (fun p hp => nomatch hp), same_upd nD⟩ ?_ ?_ ?_
    · rintro i J _ ⟨Bs, _, _, _, sm⟩
      exact sm.seq (SqL.of h9a)
    · rintro i v J hv ⟨Bs, hB, eB, hK, sm⟩
      have hik : i < As.length := by
        have := (List.getElem?_eq_some_iff.mp hv).1
        rwa [List.length_map] at this
      have gi : (refs As)[i]? = some (.ref As[i].1) := by
        rw [List.getElem?_map, List.getElem?_eq_getElem hik]
        rfl
      cases hv.symm.trans gi
      have hm : As[i] ∈ As := List.getElem_mem hik
      obtain ⟨hq, z, a, b, ek⟩ := hA9 _ hm
      have sq := same_tup sm hq
      rw [ek] at sq
      have ht : As.take (i + 1) = As.take i ++ [As[i]] := by
        rw [List.take_add_one, List.getElem?_eq_getElem hik]
        rfl
      have lB : Bs.length ≤ 64 := by
        have := congrArg List.length eB
        rw [List.length_map, List.length_map, List.length_take] at this
        omega
      refine ⟨As[i].1, [.str z, .int a, .int b], rfl, sq, rfl, .str z, [.int a, .int b], rfl, .int a, [.int b], rfl, .int b, [], rfl, rfl, rfl, ?_⟩
      unfold tYes
      refine Eq.mpr (if_pos rfl) ?_
      refine ⟨_, rfl, _, rfl, _, rfl, by show 3 ≤ sizeLine; decide, fun tp nt => ?_⟩
      have dD : D ≠ tp := ne_of_none hB nt
      have eD : (upd J tp (.tup [.str z, .int b, .int a])) D = some (.lst (refs Bs)) := by
        rw [upd_ne dD]
        exact hB
      have et : (upd J tp (.tup [.str z, .int b, .int a])) tp = some (.tup (([.inr z, .inl b, .inl a] : List Key).map kV)) := upd_same
      have st : Same J (upd J tp (.tup [.str z, .int b, .int a])) := same_upd nt
      generalize upd J tp (.tup [.str z, .int b, .int a]) = J' at eD et st ⊢
      refine ⟨refs Bs, eD, by rw [List.length_map]; exact Nat.lt_of_le_of_lt lB (by decide), Bs ++ [(tp, [.inr z, .inl b, .inl a])], ?_, ?_, ?_, ?_⟩
      · rw [upd_same]
        show _ = some (HO.lst (List.map _ (Bs ++ [_])))
        rw [List.map_append]
        rfl
      · rw [List.map_append, eB, ht, List.map_append]
        show _ ++ [_] = _ ++ [swK As[i].2]
        rw [ek]
        rfl
      · intro p hp
        rcases List.mem_append.mp hp with hp | hp
        · exact ⟨xt_tup' ((Same.xt st).put) hB (hK p hp).1, (hK p hp).2⟩
        · rw [List.mem_singleton] at hp
          subst hp
          refine ⟨SqT.of ?_, z, b, a, rfl⟩
          rw [upd_ne (ne_of et eD (fun z => nomatch z))]
          exact et
      · intro c o hc
        rw [upd_ne (ne_of_none hc nD)]
        exact st _ _ (sm _ _ hc)
    · rintro J ⟨Bs, hB, eB, hK, sm⟩
      rw [List.length_map, List.take_length] at eB
      have lB : Bs.length ≤ 64 := by
        have := congrArg List.length eB
        rw [List.length_map, List.length_map] at this
        omega
      refine ⟨D, Bs, rfl, SqL.of hB, hK, by omega, fun bw J' s' gd => ⟨_, rfl, x, C, dx, _, rfl, s' _ _ (sm _ _ h9x), T.cl, T.n5, (show (4 : Nat) < 1000 by decide), ?_⟩⟩
      have z9 : Xt x J9 (upd J' x (.ins C dx (flds pl ar mr ow bw))) := (Same.xt (sm.trans s')).put
      have gw : GXn H (upd J' x (.ins C dx (flds pl ar mr ow bw))) ow (gat As) := gx9.keep fun c o hc e => z9 c o (nx c hc) e
      have gb : GXn H (upd J' x (.ins C dx (flds pl ar mr ow bw))) bw (gat Bs) := (gd.gxn (x9.trans (Same.xt sm)) (sm _ _ h9x)).keep fun c o hc e => (Xt.refl x J').put c o (nx c hc) e
      exact KQ _ As Ms (fun H'' kp => ⟨dx, pl, ar, mr, ow, bw, kp _ _ (.inr rfl) upd_same, kp _ _ (.inl fpl) (z9 _ _ dpl h9p), kp _ _ (.inl far) (z9 _ _ dar h9a), kp _ _ (.inl fmr) (z9 _ _ dmr h9m), (gw.keep fun c o hc e => kp c o (.inl hc) e).gx, Bs, eB, (gb.keep fun c o hc e => kp c o (.inl hc) e).gx⟩) sA sM (x9.trans z9)
end
end Wb
namespace Wb
open PySem PySem.Spec PyProof.Rows L2 RZ Sg Tm
abbrev s_law_bad_tie : Stmt := topS 30
abbrev NBt : List Str := ["_law_box_here", "_law_many", "_law_tie", "_law_far", "_law_at_here"]
theorem scBt : FnScope NBt ["_law_box_here", "_law_many", "_law_tie"] (defScope s_law_bad_tie) := ⟨rfl, rfl, rfl, by decide +kernel, rfl, by decide +kernel, by decide +kernel⟩
structure Bl (mg : Str → Option Value) : Prop where
  range : mg "range" = none
  list : mg "list" = none
  len : mg "len" = none
  max : mg "max" = none
section
variable {P : Program} {w : World} {K : PySem.W.Frag} {mg : Str → Option Value} {base : Heap}
def spBad (K : PySem.W.Frag) : Sp := fun vs H Q _ => ∃ b q many t xs, vs = [.ref b, .int many, .ref t] ∧ Bx H b q ∧ H t = some (.tup xs) ∧ 0 ≤ many ∧ many < 2 ^ 90 ∧ (xs = [V.str "a", .int 0, .int 0] ∨ xs = [V.str "p", .int 0]) ∧
  ∀ p k H', SqT K H' p (k.map kV) → ((xs = [V.str "a", .int 0, .int 0] ∧ R3 k ∧ (many ≤ 81 → goodA many k = false)) ∨ (xs = [V.str "p", .int 0] ∧ R2' k ∧ (many ≤ 81 → goodM many k = false))) → Bx H' b q → Xt b H H' → Q (.ref p) H'
set_option maxHeartbeats 8000000 in
theorem ok_bt {f fT fO : Addr} {fd dT dO : FuncData} (F : Fun K "_law_bad_tie" "_law_bad_tie" s_law_bad_tie f fd) (bL : Bl mg) (oT : Df P w K mg base 1 "_law_take" ["_law_box_here", "_law_many"] spTake fT dT) (oO : Df P w K mg base 2 "_law_one" ["_law_box_here", "_law_some"] (spOne K) fO dO) : FnOk P w K mg base CX0 3 f fd ["_law_box_here", "_law_many", "_law_tie"] (spBad K) := by
  refine F.ok scBt (fun vs H Q E h => ?_) (fun cdv A outer s H vs Q E hr h => ?_)
  · obtain ⟨b, q, many, t, xs, rfl, _⟩ := h
    rfl
  · obtain ⟨b, q, many, t, xs, rfl, B, ht, m0, m90, hx, KQ⟩ := h
    refine ⟨_, (pss_cons (ps_set (i := 3) scBt.nd rfl (.inl rfl) (pe_call oO.ok (hr.mono (by decide)) (by rfl) oO.gl oO.kp oO.bd .nil pass0 (pa_cons (pv 0) (pa_cons (pe_lst (pa_cons (pv 1) (pa_cons (pe_op op_sub pe_int pe_int) (pa_cons (pe_op op_add (pe_op op_pow pe_int pe_int) (pe_call oT.ok (hr.mono (by decide)) (by rfl) oT.gl oT.kp oT.bd .nil pass0 (pa_cons (pv 0) (pa_cons pe_int pa_nil)))) (pa_cons (pe_op op_sub pe_int (pe_op op_pow pe_int pe_int)) pa_nil))))) pa_nil))))
      (pss_cons (ps_set (i := 4) scBt.nd rfl (.inl rfl) (pe_op op_add pe_int (pe_call oT.ok (hr.mono (by decide)) (by rfl) oT.gl oT.kp oT.bd .nil pass0 (pa_cons (pv 0) (pa_cons (pe_op op_sub (pe_callB call_len_seq (by rfl) bL.len PySem.boot_len (pa_cons (pv 2) pa_nil)) pe_int) pa_nil)))))
      (pss_cons (ps_if (pt_cmpR op_eq (pe_call oT.ok (hr.mono (by decide)) (by rfl) oT.gl oT.kp oT.bd .nil pass0 (pa_cons (pv 0) (pa_cons pe_int pa_nil))) pe_int (nomark _)) (pss_one (ps_ret (pe_op op_catT (pe_tup (pa_cons (pe_call oO.ok (hr.mono (by decide)) (by rfl) oO.gl oO.kp oO.bd .nil pass0 (pa_cons (pv 0) (pa_cons (pe_lst (pa_cons pe_str (pa_cons pe_str (pa_cons pe_str (pa_cons pe_str (pa_cons pe_str (pa_cons pe_str (pa_cons (pe_ifExp (pt_cmpR op_eq (pe_callB call_len_seq (by rfl) bL.len PySem.boot_len (pa_cons (pv 2) pa_nil)) pe_int (nomark _)) pe_str pe_str) pa_nil)))))))) pa_nil))) pa_nil)) (pe_slice sl_tup (pv 2) (po_some pe_int) po_none)))) pss_nil)
      (pss_one (ps_ret (pe_op op_catT (pe_op op_catT (pe_slice sl_tup (pv 2) po_none (po_some (pv 4))) (pe_tup (pa_cons (pv 3) pa_nil))) (pe_slice sl_tup (pv 2) (po_some (pe_op op_add (pv 4) pe_int)) po_none))))))), ?_⟩
    have tb : t ≠ b := by
      obtain ⟨ys, hb⟩ := bx_at B
      exact ne_of ht hb (fun z => nomatch z)
    rcases hx with rfl | rfl
    · skip
      have h99 : many < 2 ^ 100 := by omega
      refine seq_set ⟨_, rfl, _, rfl, _, _, rfl, rfl, 10, 20, rfl, rfl, ⟨by decide, by decide, by decide⟩, _, rfl, b, q, 99, rfl, B, by decide, by decide, fun t1 J1 t10 t11 B1 k1 => ⟨_, _, rfl, rfl, 10, 20, rfl, rfl, ⟨by decide, by decide, by decide⟩, _, _, rfl, rfl, by show 4 ≤ sizeLine; decide, fun l nl => .inl ⟨b, q, l, _, rfl, B1.new nl, SqL.of upd_same, B1.ne nl, by simp, by show 4 ≤ 1000; decide, fun v J2 hv B2 k2 => ?_⟩⟩⟩
      obtain ⟨far, rfl, hfar⟩ : ∃ z : Int, v = .int z ∧ (many ≤ 81 → ¬ (0 ≤ z ∧ z < many)) := by
        have h20 : (10 : Int) ^ (20 : Int).toNat = 100000000000000000000 := by decide
        simp only [List.mem_cons, List.not_mem_nil, or_false] at hv
        rcases hv with rfl | rfl | rfl | rfl
        · exact ⟨_, rfl, fun _ => by omega⟩
        · exact ⟨_, rfl, fun _ => by omega⟩
        · exact ⟨_, rfl, fun _ => by rw [h20]; omega⟩
        · exact ⟨_, rfl, fun _ => by rw [h20]; omega⟩
      have x2 : Xt b H J2 := ((k1.xt).new nl).trans k2.xt
      have ht2 := x2 _ _ tb ht
      clear k1 k2 B1 nl hv
      refine seq_set ⟨_, rfl, _, rfl, t, _, rfl, .inr (SqT.of ht2), _, _, rfl, rfl, b, q, _, rfl, B2, by show (0 : Int) < (3 : Nat) - 1; decide, by show ((3 : Nat) : Int) - 1 < 2 ^ 100; decide, fun z J3 z0 z1 B3 k3 => ⟨_, _, rfl, rfl, ?_⟩⟩
      have z1 : z < 2 := z1
      have x3 := x2.trans k3.xt
      have ht3 := x3 _ _ tb ht
      clear x2 ht2 B2 k3
      refine seq_if ⟨_, rfl, b, q, 3, rfl, B3, by decide, by decide, fun u J4 u0 u1 B4 k4 => ⟨rfl, _, rfl, ?_⟩⟩
      have x4 := x3.trans k4.xt
      have ht4 := x4 _ _ tb ht
      clear x3 ht3 B3 k4
      refine ite2 (fun _ => ?_) (fun _ => ?_)
      · refine seq_ret ⟨_, rfl, _, rfl, t, _, rfl, .inr (SqT.of ht4), rfl, _, rfl, iteT ⟨by show 7 ≤ sizeLine; decide, fun l nl => .inl ⟨b, q, l, _, rfl, B4.new nl, SqL.of upd_same, B4.ne nl, by simp, by show 7 ≤ 1000; decide, fun v J5 hv B5 k5 => ?_⟩⟩⟩
        obtain ⟨y, rfl, hy⟩ : ∃ y : Str, v = .str y ∧ inV (.str y) (signsV "abc") = false := by
          simp only [List.mem_cons, List.not_mem_nil, or_false] at hv
          rcases hv with rfl | rfl | rfl | rfl | rfl | rfl | rfl
          all_goals exact ⟨_, rfl, by decide +kernel⟩
        have x5 : Xt b H J5 := (x4.new nl).trans k5.xt
        have ht5 := x5 _ _ tb ht
        clear x4 ht4 B4 k5 hv
        refine ⟨by show 1 ≤ sizeLine; decide, fun t1 nt1 => ⟨_, rfl, 1, rfl, t, _, rfl, SqT.of (same_upd nt1 _ _ ht5), by decide, fun t2 nt2 => ?_⟩⟩
        have sA := same_upd (o := .tup [.str y]) nt1
        have sB := same_upd (o := .tup (cutV [V.str "a", .int 0, .int 0] (some 1) none)) nt2
        refine ⟨t1, t2, _, _, rfl, rfl, SqT.of (sB _ _ upd_same), SqT.of upd_same, by simp, by show 3 ≤ sizeLine; decide, (fun z => nomatch z), fun _ p np => ?_⟩
        have sC := same_upd (o := .tup ([V.str y] ++ cutV [V.str "a", .int 0, .int 0] (some 1) none)) np
        refine KQ p [.inr y, .inl 0, .inl 0] _ (SqT.of upd_same) (.inl ⟨rfl, ⟨_, _, _, rfl⟩, fun _ => ?_⟩) (((B5.new nt1).new nt2).new np) (((x5.new nt1).new nt2).new np)
        rw [goodA_eq, hy]
        rfl
      · refine seq_next ?_
        obtain rfl | rfl : z = 0 ∨ z = 1 := by omega
        · clear z0 z1
          refine ⟨_, rfl, _, rfl, _, rfl, t, _, rfl, SqT.of ht4, by decide, fun t1 nt1 => ⟨_, rfl, by show 1 ≤ sizeLine; decide, fun t2 nt2 => ?_⟩⟩
          have sA := same_upd (o := .tup (cutV [V.str "a", .int 0, .int 0] none (some (1 + 0)))) nt1
          have sB := same_upd (o := .tup [.int far]) nt2
          refine ⟨t1, t2, _, _, rfl, rfl, SqT.of (sB _ _ upd_same), SqT.of upd_same, (fun z => by cases z), by show 2 ≤ sizeLine; decide, (fun z => nomatch z), fun _ t3 nt3 => ?_⟩
          have sC := same_upd (o := .tup (cutV [V.str "a", .int 0, .int 0] none (some (1 + 0)) ++ [.int far])) nt3
          refine ⟨_, rfl, _, rfl, _, _, rfl, rfl, _, rfl, t, _, rfl, SqT.of (sC _ _ (sB _ _ (sA _ _ ht4))), by decide, fun t4 nt4 => ?_⟩
          have sD := same_upd (o := .tup (cutV [V.str "a", .int 0, .int 0] (some (1 + 0 + 1)) none)) nt4
          refine ⟨t3, t4, _, _, rfl, rfl, SqT.of (sD _ _ upd_same), SqT.of upd_same, (fun z => by cases z), by show 3 ≤ sizeLine; decide, (fun z => nomatch z), fun _ p np => ?_⟩
          · refine KQ p [.inr "a", .inl far, .inl 0] _ (SqT.of upd_same) (.inl ⟨rfl, ⟨_, _, _, rfl⟩, fun h81 => ?_⟩) (((((B4.new nt1).new nt2).new nt3).new nt4).new np) (((((x4.new nt1).new nt2).new nt3).new nt4).new np)
            have hf := hfar h81
            have : (decide (0 ≤ far) && decide (far < many)) = false := by
              by_cases h0 : 0 ≤ far
              · rw [decide_eq_false (fun z => hf ⟨h0, z⟩), Bool.and_false]
              · rw [decide_eq_false h0, Bool.false_and]
            rw [goodA_eq, this]
            simp
        · clear z0 z1
          refine ⟨_, rfl, _, rfl, _, rfl, t, _, rfl, SqT.of ht4, by decide, fun t1 nt1 => ⟨_, rfl, by show 1 ≤ sizeLine; decide, fun t2 nt2 => ?_⟩⟩
          have sA := same_upd (o := .tup (cutV [V.str "a", .int 0, .int 0] none (some (1 + 1)))) nt1
          have sB := same_upd (o := .tup [.int far]) nt2
          refine ⟨t1, t2, _, _, rfl, rfl, SqT.of (sB _ _ upd_same), SqT.of upd_same, (fun z => by cases z), by show 3 ≤ sizeLine; decide, (fun z => nomatch z), fun _ t3 nt3 => ?_⟩
          have sC := same_upd (o := .tup (cutV [V.str "a", .int 0, .int 0] none (some (1 + 1)) ++ [.int far])) nt3
          refine ⟨_, rfl, _, rfl, _, _, rfl, rfl, _, rfl, t, _, rfl, SqT.of (sC _ _ (sB _ _ (sA _ _ ht4))), by decide, fun t4 nt4 => ?_⟩
          have sD := same_upd (o := .tup (cutV [V.str "a", .int 0, .int 0] (some (1 + 1 + 1)) none)) nt4
          refine ⟨t3, t4, _, _, rfl, rfl, SqT.of (sD _ _ upd_same), SqT.of upd_same, (fun z => by cases z), by show 3 ≤ sizeLine; decide, fun _ => ?_, fun z => absurd rfl z⟩
          · refine KQ t3 [.inr "a", .inl 0, .inl far] _ (SqT.of (sD _ _ upd_same)) (.inl ⟨rfl, ⟨_, _, _, rfl⟩, fun h81 => ?_⟩) ((((B4.new nt1).new nt2).new nt3).new nt4) ((((x4.new nt1).new nt2).new nt3).new nt4)
            have hf := hfar h81
            have : (decide (0 ≤ far) && decide (far < many)) = false := by
              by_cases h0 : 0 ≤ far
              · rw [decide_eq_false (fun z => hf ⟨h0, z⟩), Bool.and_false]
              · rw [decide_eq_false h0, Bool.false_and]
            rw [goodA_eq, this]
            simp
    · skip
      have h99 : many < 2 ^ 100 := by omega
      refine seq_set ⟨_, rfl, _, rfl, _, _, rfl, rfl, 10, 20, rfl, rfl, ⟨by decide, by decide, by decide⟩, _, rfl, b, q, 99, rfl, B, by decide, by decide, fun t1 J1 t10 t11 B1 k1 => ⟨_, _, rfl, rfl, 10, 20, rfl, rfl, ⟨by decide, by decide, by decide⟩, _, _, rfl, rfl, by show 4 ≤ sizeLine; decide, fun l nl => .inl ⟨b, q, l, _, rfl, B1.new nl, SqL.of upd_same, B1.ne nl, by simp, by show 4 ≤ 1000; decide, fun v J2 hv B2 k2 => ?_⟩⟩⟩
      obtain ⟨far, rfl, hfar⟩ : ∃ z : Int, v = .int z ∧ (many ≤ 81 → ¬ (0 ≤ z ∧ z < many)) := by
        have h20 : (10 : Int) ^ (20 : Int).toNat = 100000000000000000000 := by decide
        simp only [List.mem_cons, List.not_mem_nil, or_false] at hv
        rcases hv with rfl | rfl | rfl | rfl
        · exact ⟨_, rfl, fun _ => by omega⟩
        · exact ⟨_, rfl, fun _ => by omega⟩
        · exact ⟨_, rfl, fun _ => by rw [h20]; omega⟩
        · exact ⟨_, rfl, fun _ => by rw [h20]; omega⟩
      have x2 : Xt b H J2 := ((k1.xt).new nl).trans k2.xt
      have ht2 := x2 _ _ tb ht
      clear k1 k2 B1 nl hv
      refine seq_set ⟨_, rfl, _, rfl, t, _, rfl, .inr (SqT.of ht2), _, _, rfl, rfl, b, q, _, rfl, B2, by show (0 : Int) < (2 : Nat) - 1; decide, by show ((2 : Nat) : Int) - 1 < 2 ^ 100; decide, fun z J3 z0 z1 B3 k3 => ⟨_, _, rfl, rfl, ?_⟩⟩
      have z1 : z < 1 := z1
      have x3 := x2.trans k3.xt
      have ht3 := x3 _ _ tb ht
      clear x2 ht2 B2 k3
      refine seq_if ⟨_, rfl, b, q, 3, rfl, B3, by decide, by decide, fun u J4 u0 u1 B4 k4 => ⟨rfl, _, rfl, ?_⟩⟩
      have x4 := x3.trans k4.xt
      have ht4 := x4 _ _ tb ht
      clear x3 ht3 B3 k4
      refine ite2 (fun _ => ?_) (fun _ => ?_)
      · refine seq_ret ⟨_, rfl, _, rfl, t, _, rfl, .inr (SqT.of ht4), rfl, _, rfl, iteF ⟨by show 7 ≤ sizeLine; decide, fun l nl => .inl ⟨b, q, l, _, rfl, B4.new nl, SqL.of upd_same, B4.ne nl, by simp, by show 7 ≤ 1000; decide, fun v J5 hv B5 k5 => ?_⟩⟩⟩
        obtain ⟨y, rfl, hy⟩ : ∃ y : Str, v = .str y ∧ inV (.str y) (signsV "pqr") = false := by
          simp only [List.mem_cons, List.not_mem_nil, or_false] at hv
          rcases hv with rfl | rfl | rfl | rfl | rfl | rfl | rfl
          all_goals exact ⟨_, rfl, by decide +kernel⟩
        have x5 : Xt b H J5 := (x4.new nl).trans k5.xt
        have ht5 := x5 _ _ tb ht
        clear x4 ht4 B4 k5 hv
        refine ⟨by show 1 ≤ sizeLine; decide, fun t1 nt1 => ⟨_, rfl, 1, rfl, t, _, rfl, SqT.of (same_upd nt1 _ _ ht5), by decide, fun t2 nt2 => ?_⟩⟩
        have sA := same_upd (o := .tup [.str y]) nt1
        have sB := same_upd (o := .tup (cutV [V.str "p", .int 0] (some 1) none)) nt2
        refine ⟨t1, t2, _, _, rfl, rfl, SqT.of (sB _ _ upd_same), SqT.of upd_same, by simp, by show 2 ≤ sizeLine; decide, (fun z => nomatch z), fun _ p np => ?_⟩
        have sC := same_upd (o := .tup ([V.str y] ++ cutV [V.str "p", .int 0] (some 1) none)) np
        refine KQ p [.inr y, .inl 0] _ (SqT.of upd_same) (.inr ⟨rfl, ⟨_, _, rfl⟩, fun _ => ?_⟩) (((B5.new nt1).new nt2).new np) (((x5.new nt1).new nt2).new np)
        rw [goodM_eq, hy]
        rfl
      · refine seq_next ?_
        obtain rfl : z = 0 := by omega
        clear z0 z1
        refine ⟨_, rfl, _, rfl, _, rfl, t, _, rfl, SqT.of ht4, by decide, fun t1 nt1 => ⟨_, rfl, by show 1 ≤ sizeLine; decide, fun t2 nt2 => ?_⟩⟩
        have sA := same_upd (o := .tup (cutV [V.str "p", .int 0] none (some (1 + 0)))) nt1
        have sB := same_upd (o := .tup [.int far]) nt2
        refine ⟨t1, t2, _, _, rfl, rfl, SqT.of (sB _ _ upd_same), SqT.of upd_same, (fun z => by cases z), by show 2 ≤ sizeLine; decide, (fun z => nomatch z), fun _ t3 nt3 => ?_⟩
        have sC := same_upd (o := .tup (cutV [V.str "p", .int 0] none (some (1 + 0)) ++ [.int far])) nt3
        refine ⟨_, rfl, _, rfl, _, _, rfl, rfl, _, rfl, t, _, rfl, SqT.of (sC _ _ (sB _ _ (sA _ _ ht4))), by decide, fun t4 nt4 => ?_⟩
        have sD := same_upd (o := .tup (cutV [V.str "p", .int 0] (some (1 + 0 + 1)) none)) nt4
        refine ⟨t3, t4, _, _, rfl, rfl, SqT.of (sD _ _ upd_same), SqT.of upd_same, (fun z => by cases z), by show 2 ≤ sizeLine; decide, fun _ => ?_, fun z => absurd rfl z⟩
        · refine KQ t3 [.inr "p", .inl far] _ (SqT.of (sD _ _ upd_same)) (.inr ⟨rfl, ⟨_, _, rfl⟩, fun h81 => ?_⟩) ((((B4.new nt1).new nt2).new nt3).new nt4) ((((x4.new nt1).new nt2).new nt3).new nt4)
          have hf := hfar h81
          have : (decide (0 ≤ far) && decide (far < many)) = false := by
            by_cases h0 : 0 ≤ far
            · rw [decide_eq_false (fun z => hf ⟨h0, z⟩), Bool.and_false]
            · rw [decide_eq_false h0, Bool.false_and]
          rw [goodM_eq, this]
          simp
end
end Wb
namespace Wb
open PySem PySem.Spec PyProof.Rows L2 RZ Sg Tm
section
variable {P : Program} {w : World} {K : PySem.W.Frag} {mg : Str → Option Value} {base : Heap}
def g5 {α : Type} (us mv ws : List α) : List α := match us, mv, ws with | [s, p], [m], [a] => [s, p, a, m] | _, _, _ => []
theorem kb5 {f : Addr} {fd : FuncData} {ta tm : Addr} (F : FunD K "__init__" "Web.__init__" (defArgs sInit) (defBody sInit) (defScope sInit) [] [("arrows", .ref ta), ("marks", .ref tm)] f fd) : ∃ mv : List Value, KBn K fd psI 2 ["arrows"] (fun us ws => g5 us mv ws) (fun vs zs => g5 vs [.ref tm] zs) := by
  refine F.kbinds0 2 ["arrows"] [("marks", .ref tm)] g5 (fun z => nomatch z) (fun q h => List.mem_cons_of_mem _ h) ?_ ?_
  · intro vs mz zs us mv ws h1 h2 h3
    cases h1 with
    | nil => exact .nil
    | cons a0 ta0 =>
      cases ta0 with
      | nil => exact .nil
      | cons a1 ta1 =>
        cases ta1 with
        | cons _ _ => exact .nil
        | nil =>
          cases h2 with
          | nil => exact .nil
          | cons c0 tc0 =>
            cases tc0 with
            | cons _ _ => exact .nil
            | nil =>
              cases h3 with
              | nil => exact .nil
              | cons b0 tb0 =>
                cases tb0 with
                | cons _ _ => exact .nil
                | nil =>
                  exact .cons a0 (.cons a1 (.cons b0 (.cons c0 .nil)))
  · intro D doc pm an cdv ct us mv ws l1 l2 l3
    match us, mv, ws, l1, l2, l3 with
    | [s, p], [m], [a], _, _, _ => exact ⟨_, _, _, _, _, _, rfl, rfl, rfl⟩
theorem bd_pos {f : Addr} {fd : FuncData} {ta tm : Addr} (F : FunD K "__init__" "Web.__init__" (defArgs sInit) (defBody sInit) (defScope sInit) [] [("arrows", .ref ta), ("marks", .ref tm)] f fd) : ∃ ds, Vals [V.ref ta, V.ref tm] ds ∧ Binds K fd psI ds := by
  refine F.binds0 2 (fun z => nomatch z) rfl ?_
  intro D doc pm an cdv ct us ks l1 l2
  match us, ks, l1, l2 with
  | [s, p], [a, m], _, _ => exact ⟨_, _, _, _, _, _, rfl, rfl, _, _, _, _, _, _, rfl, rfl, rfl⟩
theorem ErrTo.down {J : Hp} {E : XK} {C x dx : Addr} {o u : HO} {w f : Str} {v : V} (nx : J x = none) (ndx : J dx = none) (ne : dx ≠ x) (h : ErrTo J E C w f v) : ErrTo (upd (upd J dx o) x u) E C w f v := fun d H' nd hd sm => by
  have s1 : Same J (upd J dx o) := same_upd ndx
  have nx1 : (upd J dx o) x = none := by
    rw [upd_ne ne.symm]
    exact nx
  have s := s1.trans (same_upd (o := u) nx1)
  exact h d H' (s.free nd) hd (s.trans sm)
theorem mkX_use {C x dx la lm : Addr} {e : Ecs} {J : Hp} {ka km : List TK} {n : Int} {Q : Hp → Prop} {E : XK} (nx : J x = none) (ndx : J dx = none) (ne : dx ≠ x) (ta : TL K J la ka) (ra : ∀ p ∈ ka, R3 p.2) (l64 : ka.length < 64) (tm : TL K J lm km) (rm : ∀ p ∈ km, R2' p.2) (m64 : km.length < 64)
    (q : 0 ≤ n ∧ n ≤ 81 → (∀ p ∈ ka, goodA n p.2 = true) → (∀ p ∈ km, goodM n p.2 = true) → ∀ J' As Ms, (∀ J'', (∀ c o, J c = none → J' c = some o → J'' c = some o) → WebAt C J'' x n As Ms) → Srt ka As → Srt km Ms → Same J J' → Q J')
    (eS : ¬ (0 ≤ n ∧ n ≤ 81) → ErrTo J E e.sz "BadSize" "number" (.int n)) (eA : 0 ≤ n ∧ n ≤ 81 → ∀ i : Nat, FirstBad (goodA n) ka i → ErrTo J E e.ba "BadArrow" "at" (.int (i : Nat)))
    (eM : 0 ≤ n ∧ n ≤ 81 → (∀ p ∈ ka, goodA n p.2 = true) → ∀ i : Nat, FirstBad (goodM n) km i → ErrTo J E e.bm "BadMark" "at" (.int (i : Nat))) :
    spInitX K C e [.ref x, .int n, .ref la, .ref lm] (upd (upd J dx (.own x)) x (.ins C dx [])) (fun v H3 => v = .non ∧ Q H3) E := by
  have s1 : Same J (upd J dx (.own x)) := same_upd ndx
  have nx1 : (upd J dx (.own x)) x = none := by
    rw [upd_ne ne.symm]
    exact nx
  have s2 : Same (upd J dx (.own x)) (upd (upd J dx (.own x)) x (.ins C dx [])) := same_upd nx1
  have s := s1.trans s2
  refine ⟨x, dx, n, la, lm, ka, km, rfl, upd_same, ta.same s, ra, l64, tm.same s, rm, m64, fun hn gA gM J' As Ms W sA sM xt => ⟨rfl, q hn gA gM J' As Ms (fun J'' kp => W J'' fun c o hc e => kp c o ?_ e) sA sM fun c o hc => ?_⟩, fun h => (eS h).down nx ndx ne, fun h i fb => (eA h i fb).down nx ndx ne, fun h g i fb => (eM h g i fb).down nx ndx ne⟩
  · rcases hc with hc | rfl
    · exact s.free hc
    · exact nx
  exact xt c o (ne_of_none hc nx) (s c o hc)
end
end Wb
namespace Wb
open PySem PySem.Spec PyProof.Rows L2 RZ Sg Tm
abbrev sLaw : Stmt := topS 31
abbrev NL : List Str := ["_law_script", "_law_box_here", "_law_k", "_law_m", "_law_many", "_law_my_arrows", "_law_my_marks", "_law_my_spots", "_law_due"]
theorem scLw : FnScope NL ["_law_script"] (defScope sLaw) := ⟨rfl, rfl, rfl, by decide +kernel, rfl, by decide +kernel, by decide +kernel⟩
abbrev qLam : Str := (envOfC "law" (defScope sLaw) 0 0 .none).qual ++ "<lambda>"
abbrev TB1 (PT : Addr) : List (Addr × Str) := [(PT, qLam)]
theorem seq_asg {te : TE} {g : TG} {rest : TS} {D : Ends} {σ : L2.St} {H : Hp} (h : te σ H fun v H' => g v σ H' fun σ' H'' => rest D σ' H'') : tSeq (tAsg te g) rest D σ H := h
theorem te_cut {te : TE} {σ : L2.St} {H : Hp} {Q : VK} (R : V → Hp → Prop) (h : ∀ Q' : VK, (∀ v J, R v J → Q' v J) → te σ H Q') (k : ∀ v J, R v J → Q v J) : te σ H Q := h Q k
/-- where the first of the ties that is not good stands, if one does -/
def Spot (good : Int → List Key → Bool) (mn : Int) (L : List TK) (s : V) : Prop := (s = .non ∧ (0 ≤ mn ∧ mn ≤ 81 → ∀ z ∈ L, good mn z.2 = true)) ∨ ∃ i : Nat, s = .int (i : Nat) ∧ (0 ≤ mn ∧ mn ≤ 81 → FirstBad (good mn) L i)
theorem spot_ins {good : List Key → Bool} {L : List TK} {b : TK} {i : Nat} (hi : i ≤ L.length) (hg : ∀ z ∈ L, good z.2 = true) (hb : good b.2 = false) : FirstBad good (L.take i ++ [b] ++ L.drop i) i := by
  have hl : (L.take i).length = i := by
    rw [List.length_take]
    omega
  refine ⟨?_, fun p hp => ?_, ?_⟩
  · rw [List.length_append, List.length_append, hl]
    simp
    omega
  · rw [List.append_assoc, List.take_append_of_le_length (by omega), List.take_of_length_le (by omega)] at hp
    exact hg p (List.mem_of_mem_take hp)
  · have h? : (L.take i ++ [b] ++ L.drop i)[i]? = some b := by
      rw [List.append_assoc, List.getElem?_append_right (by omega)]
      simp [hl]
    obtain ⟨h1, h2⟩ := List.getElem?_eq_some_iff.mp h?
    rw [h2]
    exact hb
/-- a list of ties that stands by itself -/
structure LT (K : PySem.W.Frag) (J : Hp) (l : Addr) (L : List TK) (R : List Key → Prop) : Prop where
  at_ : J l = some (.lst (refs L))
  q : ∀ z ∈ L, SqT K J z.1 (z.2.map kV) ∧ R z.2
  len : L.length ≤ 61
theorem LT.xt {K : PySem.W.Frag} {J J' : Hp} {l b q : Addr} {L : List TK} {R : List Key → Prop} (h : LT K J l L R) (B : Bx J b q) (x : Xt b J J') : LT K J' l L R :=
  ⟨x _ _ (bx_nr B h.at_) h.at_, fun z hz => ⟨bx_tup B x (h.q z hz).1, (h.q z hz).2⟩, h.len⟩
theorem LT.same {K : PySem.W.Frag} {J J' : Hp} {l : Addr} {L : List TK} {R : List Key → Prop} (h : LT K J l L R) (x : Same J J') : LT K J' l L R :=
  ⟨x _ _ h.at_, fun z hz => ⟨same_tup x (h.q z hz).1, (h.q z hz).2⟩, h.len⟩
theorem LT.extN {K : PySem.W.Frag} {J J' : Hp} {l : Addr} {L : List TK} {R : List Key → Prop} (h : LT K J l L R) (x : LamX.ExtN J J') : LT K J' l L R :=
  ⟨x _ _ h.at_ (fun _ z => nomatch z), fun z hz => ⟨extN_tup x (h.q z hz).1, (h.q z hz).2⟩, h.len⟩
/-- another list is changed -/
theorem LT.put {K : PySem.W.Frag} {J : Hp} {l m : Addr} {L : List TK} {R : List Key → Prop} {xs : List V} {ys : List V} (h : LT K J l L R) (hm : J m = some (.lst ys)) (ne : l ≠ m) : LT K (upd J m (.lst xs)) l L R :=
  ⟨by rw [upd_ne ne]; exact h.at_, fun z hz => ⟨xt_tup' (Xt.refl m J).put hm (h.q z hz).1, (h.q z hz).2⟩, h.len⟩
/-- the tie is put in -/
theorem LT.ins {K : PySem.W.Frag} {J : Hp} {l p : Addr} {k : List Key} {L : List TK} {R : List Key → Prop} {i : Nat} (h : LT K J l L R) (h60 : L.length ≤ 60) (hp : SqT K J p (k.map kV)) (r : R k) : LT K (upd J l (.lst ((refs L).take i ++ [.ref p] ++ (refs L).drop i))) l (L.take i ++ [(p, k)] ++ L.drop i) R := by
  refine ⟨?_, fun z hz => ?_, ?_⟩
  · rw [upd_same]
    simp only [List.map_append, List.map_take, List.map_drop]
    rfl
  · have : z ∈ L ∨ z = (p, k) := by
      rcases List.mem_append.mp hz with hz | hz
      · rcases List.mem_append.mp hz with hz | hz
        · exact .inl (List.mem_of_mem_take hz)
        · exact .inr (List.mem_singleton.mp hz)
      · exact .inl (List.mem_of_mem_drop hz)
    rcases this with hz | rfl
    · exact ⟨xt_tup' (Xt.refl l J).put h.at_ (h.q z hz).1, (h.q z hz).2⟩
    · exact ⟨xt_tup' (Xt.refl l J).put h.at_ hp, r⟩
  · have e : (L.take i ++ [(p, k)] ++ L.drop i).length = L.length + 1 := by
      simp only [List.length_append, List.length_take, List.length_drop, List.length_singleton]
      omega
    omega
theorem bx_nsp {H : Hp} {b q s : Addr} {u v : V} (B : Bx H b q) (h : H s = some (HO.lst [u, v])) : s ≠ b := fun e => by
  subst e
  obtain ⟨ns, i, r, k, hb, _⟩ := B
  rw [h] at hb
  cases hb
def Due (J : Hp) (v : V) (mn : Int) (s0 s1 : V) : Prop := (¬ (0 ≤ mn ∧ mn ≤ 81) ∧ ∃ t, v = .ref t ∧ J t = some (.tup [V.str "BadSize", .int mn])) ∨
  ((0 ≤ mn ∧ mn ≤ 81) ∧ ((∃ (i : Nat) (t : Addr), s0 = .int (i : Nat) ∧ v = .ref t ∧ J t = some (.tup [V.str "BadArrow", .int (i : Nat)])) ∨ (s0 = .non ∧ ((∃ (i : Nat) (t : Addr), s1 = .int (i : Nat) ∧ v = .ref t ∧ J t = some (.tup [V.str "BadMark", .int (i : Nat)])) ∨ (s1 = .non ∧ v = .non)))))
theorem Due.same {J J' : Hp} {v : V} {mn : Int} {s0 s1 : V} (s : Same J J') (h : Due J v mn s0 s1) : Due J' v mn s0 s1 := by
  rcases h with ⟨h, t, e, ht⟩ | ⟨h, ⟨i, t, e1, e2, ht⟩ | ⟨e0, ⟨i, t, e1, e2, ht⟩ | h1⟩⟩
  · exact .inl ⟨h, t, e, s _ _ ht⟩
  · exact .inr ⟨h, .inl ⟨i, t, e1, e2, s _ _ ht⟩⟩
  · exact .inr ⟨h, .inr ⟨e0, .inl ⟨i, t, e1, e2, s _ _ ht⟩⟩⟩
  · exact .inr ⟨h, .inr ⟨e0, .inr h1⟩⟩
theorem Due.extN {J J' : Hp} {v : V} {mn : Int} {s0 s1 : V} (s : LamX.ExtN J J') (h : Due J v mn s0 s1) : Due J' v mn s0 s1 := by
  rcases h with ⟨h, t, e, ht⟩ | ⟨h, ⟨i, t, e1, e2, ht⟩ | ⟨e0, ⟨i, t, e1, e2, ht⟩ | h1⟩⟩
  · exact .inl ⟨h, t, e, s _ _ ht (fun _ z => nomatch z)⟩
  · exact .inr ⟨h, .inl ⟨i, t, e1, e2, s _ _ ht (fun _ z => nomatch z)⟩⟩
  · exact .inr ⟨h, .inr ⟨e0, .inl ⟨i, t, e1, e2, s _ _ ht (fun _ z => nomatch z)⟩⟩⟩
  · exact .inr ⟨h, .inr ⟨e0, .inr h1⟩⟩
theorem sv_pair {K : PySem.W.Frag} {J : Hp} {p t : Addr} {x : Str} {v : Int} (h1 : J p = some (.tup [V.str x, .int v])) (h2 : J t = some (.tup [V.str x, .int v])) : Sv K J 3 (.ref p) (.ref t) :=
  .inr ⟨p, t, _, _, rfl, rfl, .inr ⟨SqT.of h1, SqT.of h2⟩, by show 2 ≤ 100000; decide, .cons (.inl ⟨rfl, rfl⟩) (.cons (.inl ⟨rfl, rfl⟩) .nil)⟩
theorem no_first {good : List Key → Bool} {i : Nat} (h : FirstBad good [] i) : False := by
  obtain ⟨hi, _⟩ := h
  exact absurd hi (Nat.not_lt_zero _)
theorem first_eq {good : List Key → Bool} {L : List TK} {i j : Nat} (h1 : FirstBad good L i) (h2 : FirstBad good L j) : i = j := by
  obtain ⟨hi, a1, b1⟩ := h1
  obtain ⟨hj, a2, b2⟩ := h2
  rcases Nat.lt_trichotomy i j with h | h | h
  · have := a2 L[i] (List.mem_take_iff_getElem.mpr ⟨i, by omega, rfl⟩)
    rw [b1] at this
    cases this
  · exact h
  · have := a1 L[j] (List.mem_take_iff_getElem.mpr ⟨j, by omega, rfl⟩)
    rw [b2] at this
    cases this
section
variable {P : Program} {w : World} {K : PySem.W.Frag} {mg : Str → Option Value} {base : Heap}
def spLaw (K : PySem.W.Frag) (PT : Addr) : Sp := fun vs H Q _ => ∃ (a : Addr) (ns : List Int), vs = [.ref a] ∧ SqL K H a (ns.map V.int) ∧ ns.length ≤ 63 ∧ LamX.Tabs (TB1 PT) H ∧ ∀ H', Q (.bl true) H'
set_option maxHeartbeats 8000000 in
theorem ok_law {f cL PT fB fT fO fW fS fX fAt fI fP fA fM fZ C ta tm : Addr} {fd dB dT dO dW dS dX dAt dI dP : FuncData} {e : Ecs} (F : FunC K "law" "law" sLaw f fd cL) (b : Bl mg) (c : Cls K C) (gW : mg "Web" = some (.ref C)) (M : Mk K C fI) (FI : FunD K "__init__" "Web.__init__" (defArgs sInit) (defBody sInit) (defScope sInit) [] [("arrows", .ref ta), ("marks", .ref tm)] fI dI)
    (oI : FnOk P w K mg base (L2.CX P w) 4 fI dI psI (spInitX K C e)) (ea : ∀ H, SqT K H ta []) (em : ∀ H, SqT K H tm []) (TB : LamX.TabB base mg cL PT) (Fat : Fun K "_law_at" "_law_at" sAt fAt dAt) (gAt : mg "_law_at" = some (.ref fAt)) (bAt : Binds K dAt ["_law_ask"] []) (G : AtG mg e)
    (aS : AtC K e e.sz "number") (eS : ErrC K e.sz fZ "number") (aA : AtC K e e.ba "at") (eA : ErrC K e.ba fA "at") (aM : AtC K e e.bm "at") (eM : ErrC K e.bm fM "at")
    (oB : Df P w K mg base 1 "_law_box" ["_law_script"] (spBox K) fB dB) (oT : Df P w K mg base 1 "_law_take" ["_law_box_here", "_law_many"] spTake fT dT) (oO : Df P w K mg base 2 "_law_one" ["_law_box_here", "_law_some"] (spOne K) fO dO) (oW : Df P w K mg base 5 "_law_web" ["_law_box_here", "_law_low", "_law_high"] (spWeb K) fW dW)
    (oS : Df P w K mg base 4 "_law_same" ["_law_found", "_law_due"] (spSame K 3) fS dS) (oX : Df P w K mg base 3 "_law_bad_tie" ["_law_box_here", "_law_many", "_law_tie"] (spBad K) fX dX) (mP : Mf P w K mg base 1 C "points" (spPts C) fP dP) : FnOk P w K mg base CX0 8 f fd ["_law_script"] (spLaw K PT) := by
  obtain ⟨mv2, k2⟩ := kb2 FI (fun z => nomatch z)
  obtain ⟨mv5, k5⟩ := kb5 FI
  obtain ⟨ds0, rv0, bd0⟩ := bd_pos FI
  refine F.ok scLw (fun vs H Q E h => ?_) (fun A outer s H vs Q E hr h => ?_)
  · obtain ⟨a, ns, rfl, _⟩ := h
    rfl
  · obtain ⟨a, ns, rfl, hS, hlen, hTb, KQ⟩ := h
    have hu : (A.deeper (envOfC "law" (defScope sLaw) s.heap.objs.size f (.ref cL))).units + 64 < cLine := by
      have := hr.un
      omega
    refine ⟨_, (pss_cons (ps_set (i := 1) scLw.nd rfl (.inl rfl) (pe_call oB.ok (hr.mono (by decide)) (by rfl) oB.gl oB.kp oB.bd .nil pass0 (pa_cons (pv 0) pa_nil)))
      (pss_cons (ps_for PassesOwn.never rfl (pi_range1 (by rfl) b.range (pa_cons pe_int pa_nil)) (pg_name (i := 2) scLw.nd rfl (.inl rfl))
      (pss_cons (ps_set (i := 3) scLw.nd rfl (.inl rfl) (pe_call oW.ok (hr.mono (by decide)) (by rfl) oW.gl oW.kp oW.bd .nil pass0 (pa_cons (pv 1) (pa_cons pe_int (pa_cons pe_int pa_nil)))))
      (pss_cons (ps_set (i := 4) scLw.nd rfl (.inr rfl) (pe_call oO.ok (hr.mono (by decide)) (by rfl) oO.gl oO.kp oO.bd .nil pass0 (pa_cons (pv 1) (pa_cons (pe_lst (pa_cons (pe_ix ix_tup (pv 3) pe_int (fun _ _ => rfl)) (pa_cons (pe_ix ix_tup (pv 3) pe_int (fun _ _ => rfl)) (pa_cons (pe_ix ix_tup (pv 3) pe_int (fun _ _ => rfl)) (pa_cons (pe_op op_sub pe_int pe_int) (pa_cons pe_int (pa_cons (pe_op op_pow pe_int pe_int) (pa_cons pe_int pa_nil)))))))) pa_nil))))
      (pss_cons (ps_asg (pe_tup (pa_cons (pe_callTy call_list_of (by rfl) b.list boot_list (pa_cons (pe_ix ix_tup (pv 3) pe_int (fun _ _ => rfl)) pa_nil)) (pa_cons (pe_callTy call_list_of (by rfl) b.list boot_list (pa_cons (pe_ix ix_tup (pv 3) pe_int (fun _ _ => rfl)) pa_nil)) pa_nil))) (pg_tup rfl (pgs_cons (pg_name (i := 5) scLw.nd rfl (.inr rfl)) (pgs_cons (pg_name (i := 6) scLw.nd rfl (.inr rfl)) pgs_nil))))
      (pss_cons (ps_set (i := 7) scLw.nd rfl (.inl rfl) (pe_lst (pa_cons pe_non (pa_cons pe_non pa_nil))))
      (C8.pss_cut (ps_if (pt_cmpR op_eq (pe_call oT.ok (hr.mono (by decide)) (by rfl) oT.gl oT.kp oT.bd .nil pass0 (pa_cons (pv 1) (pa_cons pe_int pa_nil))) pe_int (nomark _)) (pss_cons (ps_asg (pe_call oT.ok (hr.mono (by decide)) (by rfl) oT.gl oT.kp oT.bd .nil pass0 (pa_cons (pv 1) (pa_cons (pe_op op_add (pe_callB call_len_seq (by rfl) b.len PySem.boot_len (pa_cons (pv 5) pa_nil)) pe_int) pa_nil))) (pg_sub (pv 7) pe_int set_list))
      (pss_one (ps_expr (pe_bm PySem.F.plainAttrs_list PySem.F.slot_list_insert PySem.F.type_list_insert mt_insert (pv 5) (pa_cons (pe_ix ix_list (pv 7) pe_int (fun _ _ => rfl)) (pa_cons (pe_call oX.ok (hr.mono (by decide)) (by rfl) oX.gl oX.kp oX.bd .nil pass0 (pa_cons (pv 1) (pa_cons (pe_callB (call_max2 rfl) (by rfl) b.max (by decide +kernel) (pa_cons (pv 4) (pa_cons pe_int pa_nil))) (pa_cons (pe_tup (pa_cons pe_str (pa_cons pe_int (pa_cons pe_int pa_nil)))) pa_nil)))) pa_nil)))))) pss_nil)
      (C8.pss_cut (ps_if (pt_cmpR op_eq (pe_call oT.ok (hr.mono (by decide)) (by rfl) oT.gl oT.kp oT.bd .nil pass0 (pa_cons (pv 1) (pa_cons pe_int pa_nil))) pe_int (nomark _)) (pss_cons (ps_asg (pe_call oT.ok (hr.mono (by decide)) (by rfl) oT.gl oT.kp oT.bd .nil pass0 (pa_cons (pv 1) (pa_cons (pe_op op_add (pe_callB call_len_seq (by rfl) b.len PySem.boot_len (pa_cons (pv 6) pa_nil)) pe_int) pa_nil))) (pg_sub (pv 7) pe_int set_list))
      (pss_one (ps_expr (pe_bm PySem.F.plainAttrs_list PySem.F.slot_list_insert PySem.F.type_list_insert mt_insert (pv 6) (pa_cons (pe_ix ix_list (pv 7) pe_int (fun _ _ => rfl)) (pa_cons (pe_call oX.ok (hr.mono (by decide)) (by rfl) oX.gl oX.kp oX.bd .nil pass0 (pa_cons (pv 1) (pa_cons (pe_callB (call_max2 rfl) (by rfl) b.max (by decide +kernel) (pa_cons (pv 4) (pa_cons pe_int pa_nil))) (pa_cons (pe_tup (pa_cons pe_str (pa_cons pe_int pa_nil))) pa_nil)))) pa_nil)))))) pss_nil)
      (pss_cons (ps_set (i := 8) scLw.nd rfl (.inl rfl) (pe_ifExp (pt_cmpR op_isN (pe_ix ix_list (pv 7) pe_int (fun _ _ => rfl)) pe_non (nomark _)) pe_non (pe_tup (pa_cons pe_str (pa_cons (pe_ix ix_list (pv 7) pe_int (fun _ _ => rfl)) pa_nil)))))
      (pss_cons (ps_set (i := 8) scLw.nd rfl (.inl rfl) (pe_ifExp (pt_cmpR op_isN (pe_ix ix_list (pv 7) pe_int (fun _ _ => rfl)) pe_non (nomark _)) (pv 8) (pe_tup (pa_cons pe_str (pa_cons (pe_ix ix_list (pv 7) pe_int (fun _ _ => rfl)) pa_nil)))))
      (pss_cons (ps_set (i := 8) scLw.nd rfl (.inl rfl) (pe_ifExp (pt_chain op_le op_le pe_int (pv 4) pe_int) (pv 8) (pe_tup (pa_cons pe_str (pa_cons (pv 4) pa_nil)))))
      (pss_one (ps_if (pt_not (pt_val (pe_call oS.ok (hr.mono (by decide)) (by rfl) oS.gl oS.kp oS.bd .nil pass0 (pa_cons (pe_at (T := TB1 PT) (k := 5) Fat gAt bAt G (by rfl) TB rfl (List.mem_singleton.mpr rfl) (fun p hp _ => congrArg Prod.snd (List.mem_singleton.mp hp)) (hr.mono (by decide)) (LamX.lamS_by (sc := defScope sLaw) (by decide +kernel)) rfl (fun _ _ _ _ _ => rfl) (fun _ _ _ _ E _ _ hr => (pe_makeK M oI (hr.mono (by decide)) (by rfl) gW k2 (passE rfl rfl rfl rfl) (pa_cons (pv 4) pa_nil) (pk_cons (pv 5) (pk_cons (pv 6) pk_nil))))) (pa_cons (pv 8) pa_nil))))) (pss_one ps_never) pss_nil))))))))))))
      (pss_one (ps_ret (pe_and (pe_cmpR (op_eqDK (K := K) rfl hu) (pe_at (T := TB1 PT) (k := 5) Fat gAt bAt G (by rfl) TB rfl (List.mem_singleton.mpr rfl) (fun p hp _ => congrArg Prod.snd (List.mem_singleton.mp hp)) (hr.mono (by decide)) (LamX.lamS_by (sc := defScope sLaw) (by decide +kernel)) rfl (fun _ _ _ _ _ => rfl) (fun _ _ _ _ E _ _ hr => (pe_makeK M oI (hr.mono (by decide)) (by rfl) gW k5 (passE rfl rfl rfl rfl) (pa_cons pe_int pa_nil) (pk_cons (pe_lst (pa_cons (pe_tup (pa_cons pe_str (pa_cons pe_int (pa_cons pe_int pa_nil)))) pa_nil)) pk_nil)))) (pe_tup (pa_cons pe_str (pa_cons pe_int pa_nil))) (nomark _)) (pe_one (pe_cmpR op_eq (pe_meth0 (pe_make M oI (hr.mono (by decide)) (by rfl) gW bd0 rv0 passL (pa_cons pe_int pa_nil)) c mP.mt mP.ok (hr.mono (by decide)) mP.bd .nil pass0) pe_int (nomark _)))))))), ?_⟩
    refine seq_set ⟨_, rfl, a, ns, rfl, hS, hlen, fun bx q H1 nb B1 s1 => ?_⟩
    have T1 := hTb.ext s1
    refine ⟨5, rfl, by decide, by decide, for_range (lo := 0) (n := 5) (fun i σ J => ∃ y2 y3 y4 y5 y6 y7 y8, σ = [some (.ref a), some (.ref bx), y2, y3, y4, y5, y6, y7, y8] ∧ Bx J bx q ∧ LamX.Tabs (TB1 PT) J) ⟨_, _, _, _, _, _, _, rfl, B1, T1⟩ ?_ ?_⟩
    · rintro i σ J hi ⟨y2, y3, y4, y5, y6, y7, y8, rfl, B, T⟩
      clear B1 s1 nb T1 hTb
      refine seq_set ⟨_, rfl, bx, q, 1, 6, rfl, B, by decide, by decide, by decide, fun p n am mm As Ms J1 n0 n6 W B1 x1 => ?_⟩
      have T1 := tabs_xt B x1 T
      clear B x1 T
      have hp0 : atI [V.int n, .ref am, .ref mm] 0 = some (.int n) := atI_nat (j := 0) rfl
      refine seq_set ⟨_, rfl, _, rfl, p, _, 0, .int n, rfl, rfl, SqT.of W.tp, hp0, _, rfl, p, _, 0, .int n, rfl, rfl, SqT.of W.tp, hp0, _, rfl, p, _, 0, .int n, rfl, rfl, SqT.of W.tp, hp0, _, _, rfl, rfl, 10, 20, rfl, rfl, ⟨by decide, by decide, by decide⟩, by show 7 ≤ sizeLine; decide, fun l nl => .inl ⟨bx, q, l, _, rfl, B1.new nl, SqL.of upd_same, B1.ne nl, by simp, by show 7 ≤ 1000; decide, fun v J2 hv B2 k2' => ?_⟩⟩
      obtain ⟨mn, rfl, hmn, hm90⟩ : ∃ z : Int, v = .int z ∧ (0 ≤ z ∧ z ≤ 81 → n ≤ z) ∧ z < 2 ^ 90 := by
        have h20 : (10 : Int) ^ (20 : Int).toNat = 100000000000000000000 := by decide
        simp only [List.mem_cons, List.not_mem_nil, or_false] at hv
        rcases hv with rfl | rfl | rfl | rfl | rfl | rfl | rfl
        · exact ⟨_, rfl, fun _ => by omega, by omega⟩
        · exact ⟨_, rfl, fun _ => by omega, by omega⟩
        · exact ⟨_, rfl, fun _ => by omega, by omega⟩
        · exact ⟨_, rfl, fun _ => by omega, by omega⟩
        · exact ⟨_, rfl, fun _ => by omega, by omega⟩
        · exact ⟨_, rfl, fun _ => by rw [h20] at *; omega, by rw [h20]; omega⟩
        · exact ⟨_, rfl, fun _ => by omega, by omega⟩
      have x2 : Xt bx J1 J2 := ((Xt.refl bx J1).new nl).trans k2'.xt
      have W2 := W.xt B1 x2
      have T2 := tabs_xt B1 x2 T1
      clear W B1 T1 x2 k2' hv nl
      -- copies
      refine seq_asg ⟨_, rfl, p, _, 1, .ref am, rfl, rfl, SqT.of W2.tp, atI_nat (j := 1) rfl, am, _, rfl, .inl (SqL.of W2.ha), fun ca nca => ⟨_, rfl, p, _, 2, .ref mm, rfl, rfl, SqT.of (same_upd nca _ _ W2.tp), atI_nat (j := 2) rfl, mm, _, rfl, .inl (SqL.of (same_upd nca _ _ W2.hm)), fun cm ncm => ⟨by show 2 ≤ sizeLine; decide, fun tt ntt => ⟨tt, _, rfl, SqT.of upd_same, rfl, .ref ca, [.ref cm], rfl, .ref cm, [], rfl, rfl, ?_⟩⟩⟩⟩
      have sA := same_upd (o := .lst (refs As)) nca
      have sB := same_upd (o := .lst (refs Ms)) ncm
      have sC := same_upd (o := .tup [.ref ca, .ref cm]) ntt
      have hca := sC _ _ (sB _ _ (upd_same (H := J2) (a := ca) (o := .lst (refs As))))
      have hcm := sC _ _ (upd_same (H := upd J2 ca (.lst (refs As))) (a := cm) (o := .lst (refs Ms)))
      have dcm : ca ≠ cm := ne_of_none upd_same ncm
      have dqa : ca ≠ q := B2.neq nca
      have dqm : cm ≠ q := (B2.new nca).neq ncm
      have s3 := (sA.trans sB).trans sC
      generalize upd (upd (upd J2 ca (.lst (refs As))) cm (.lst (refs Ms))) tt (.tup [.ref ca, .ref cm]) = J3 at hca hcm s3 ⊢
      clear sA sB sC ntt nca ncm
      have W3 := W2.same s3
      have B3 := bx_same s3 B2
      have T3 := T2.ext s3
      clear W2 B2 T2 s3
      have LA : LT K J3 ca As R3 := ⟨hca, fun z hz => ⟨W3.qa z hz, (W3.ka z hz).r3⟩, by have := W3.la; omega⟩
      have LM : LT K J3 cm Ms R2' := ⟨hcm, fun z hz => ⟨W3.qm z hz, by obtain ⟨c, x, e, _⟩ := W3.km z hz; exact ⟨_, x, e⟩⟩, by have := W3.lm; omega⟩
      have lA60 := W3.la
      have lM60 := W3.lm
      have gAs : 0 ≤ mn ∧ mn ≤ 81 → ∀ z ∈ As, goodA mn z.2 = true := fun h z hz => by
        obtain ⟨c, x, y, e, hc, h1, h2, h3, h4⟩ := W3.ka z hz
        have := hmn h
        exact AK.good ⟨c, x, y, e, hc, h1, by omega, h3, by omega⟩
      have gMs : 0 ≤ mn ∧ mn ≤ 81 → ∀ z ∈ Ms, goodM mn z.2 = true := fun h z hz => by
        obtain ⟨c, x, e, hc, h1, h2⟩ := W3.km z hz
        have := hmn h
        exact MK.good ⟨c, x, e, hc, h1, by omega⟩
      clear W3 hca hcm
      refine seq_set ⟨by show 2 ≤ sizeLine; decide, fun sp nsp => ?_⟩
      have hsp := upd_same (H := J3) (a := sp) (o := .lst [.non, .non])
      have s4 := same_upd (o := .lst [.non, .non]) nsp
      have LA4 := LA.same s4
      have LM4 := LM.same s4
      have B4 := bx_same s4 B3
      have T4 := T3.ext s4
      have dsa : ca ≠ sp := ne_of_none LA.at_ nsp
      have dqs : sp ≠ q := B3.neq nsp
      have dsm : cm ≠ sp := ne_of_none LM.at_ nsp
      generalize upd J3 sp (.lst [.non, .non]) = J4 at hsp s4 LA4 LM4 B4 T4 ⊢
      clear s4 LA LM B3 T3 nsp
      have spb : sp ≠ bx := bx_nsp B4 hsp
      refine ⟨fun σ J => ∃ y2 y8 La s0, σ = [some (.ref a), some (.ref bx), y2, some (.ref p), some (.int mn), some (.ref ca), some (.ref cm), some (.ref sp), y8] ∧ LT K J ca La R3 ∧ LT K J cm Ms R2' ∧ J sp = some (.lst [s0, .non]) ∧ Bx J bx q ∧ LamX.Tabs (TB1 PT) J ∧ Spot goodA mn La s0, ?_, ?_⟩
      · refine ⟨_, rfl, bx, q, 2, rfl, B4, by decide, by decide, fun u J5 u0 u1 B5 k5 => ⟨rfl, _, rfl, ite2 (fun _ => ?_) (fun _ => ?_)⟩⟩
        · have LA5 := LA4.xt B4 k5.xt
          have LM5 := LM4.xt B4 k5.xt
          have T5 := tabs_xt B4 k5.xt T4
          have hsp5 := k5.xt _ _ spb hsp
          clear LA4 LM4 B4 T4 hsp k5
          refine seq_asg ⟨_, rfl, _, rfl, ca, _, rfl, .inl (SqL.of LA5.at_), _, _, rfl, rfl, bx, q, _, rfl, B5, by rw [List.length_map]; omega, by rw [List.length_map]; omega, fun z J6 z0 z1 B6 k6 => ⟨_, rfl, sp, _, 0, 0, rfl, rfl, k6.xt _ _ spb hsp5, rfl, ?_⟩⟩
          have z1 : z < ((As.length + 1 : Nat) : Int) := by
            rw [List.length_map] at z1
            omega
          have hsp6 := k6.xt _ _ spb hsp5
          have LA6 := (LA5.xt B5 k6.xt).put (xs := ([V.non, V.non].set 0 (V.int z))) hsp6 dsa
          have LM6 := (LM5.xt B5 k6.xt).put (xs := ([V.non, V.non].set 0 (V.int z))) hsp6 dsm
          have T6 := tabs_but hsp6 (Xt.refl sp J6).put (tabs_xt B5 k6.xt T5) (H' := upd J6 sp (.lst ([V.non, V.non].set 0 (V.int z))))
          have B7 : Bx (upd J6 sp (.lst ([V.non, V.non].set 0 (V.int z)))) bx q := B6.upd spb (dqs)
          have hsp7 : (upd J6 sp (.lst ([V.non, V.non].set 0 (V.int z)))) sp = some (.lst [.int z, .non]) := upd_same
          refine (show tDrop _ _ _ _ from ⟨_, rfl, .inl ⟨rfl, _, SqL.of LA6.at_⟩, _, rfl, sp, _, 0, .int z, rfl, rfl, SqL.of hsp7, atI_nat (j := 0) rfl, _, rfl, _, rfl, mn, 0, rfl, ?_⟩)
          generalize upd J6 sp (.lst ([V.non, V.non].set 0 (V.int z))) = J7 at LA6 LM6 T6 B7 hsp7 ⊢
          clear LA5 LM5 T5 B5 B6 k6 hsp5 hsp6
          have mx0 : (0 : Int) ≤ (if (0 : Int) > mn then 0 else mn) := by
            split <;> omega
          have mx9 : (if (0 : Int) > mn then 0 else mn) < 2 ^ 90 := by
            split <;> omega
          have mxe : 0 ≤ mn ∧ mn ≤ 81 → (if (0 : Int) > mn then 0 else mn) = mn := fun h => by
            rw [if_neg (by omega)]
          generalize (if (0 : Int) > mn then 0 else mn) = mx at mx0 mx9 mxe ⊢
          refine ⟨by show 3 ≤ sizeLine; decide, fun tt ntt => ⟨bx, q, mx, tt, _, rfl, B7.new ntt, upd_same, mx0, mx9, .inl rfl, fun p1 k1 J8 hp1 hk1 B8 x8 => ?_⟩⟩
          have x78 : Xt bx J7 J8 := ((Xt.refl bx J7).new ntt).trans x8
          have LA8 := LA6.xt B7 x78
          have LM8 := LM6.xt B7 x78
          have T8 := tabs_xt B7 x78 T6
          have hsp8 := x78 _ _ spb hsp7
          clear LA6 LM6 T6 B7 hsp7 x78 x8 ntt
          obtain ⟨rk, bk⟩ : R3 k1 ∧ (mx ≤ 81 → goodA mx k1 = false) := by
            rcases hk1 with ⟨e, h1, h2⟩ | ⟨e, h1, h2⟩
            · exact ⟨h1, h2⟩
            · cases e
          refine ⟨ca, refs As, z, _, rfl, rfl, LA8.at_, small1000 (by rw [List.length_map]; omega), z0, by omega, ?_⟩
          obtain ⟨iz, rfl⟩ : ∃ k : Nat, z = (k : Int) := ⟨z.toNat, by omega⟩
          have dc2 : sp ≠ ca := dsa.symm
          have spot : 0 ≤ mn ∧ mn ≤ 81 → FirstBad (goodA mn) (As.take iz ++ [(p1, k1)] ++ As.drop iz) iz := fun h => spot_ins (by omega) (gAs h) (by have := bk (by rw [mxe h]; omega); rw [mxe h] at this; exact this)
          exact ⟨_, _, _, _, rfl, LA8.ins lA60 hp1 rk, LM8.put LA8.at_ dcm.symm, by rw [upd_ne dc2]; exact hsp8, B8.upd (bx_nr B8 LA8.at_) dqa, tabs_but LA8.at_ (Xt.refl ca J8).put T8, .inr ⟨iz, rfl, spot⟩⟩
        · exact ⟨_, _, As, _, rfl, LA4.xt B4 k5.xt, LM4.xt B4 k5.xt, k5.xt _ _ spb hsp, B5, tabs_xt B4 k5.xt T4, .inl ⟨rfl, gAs⟩⟩
      · rintro σ J5 ⟨y2, y8, La, s0, rfl, LA4', LM4', hsp', B4', T4', spA⟩
        clear LA4 LM4 hsp B4 T4 spb
        have spb : sp ≠ bx := bx_nsp B4' hsp'
        refine ⟨fun σ J => ∃ y2 y8 Lm s1, σ = [some (.ref a), some (.ref bx), y2, some (.ref p), some (.int mn), some (.ref ca), some (.ref cm), some (.ref sp), y8] ∧ LT K J ca La R3 ∧ LT K J cm Lm R2' ∧ J sp = some (.lst [s0, s1]) ∧ Bx J bx q ∧ LamX.Tabs (TB1 PT) J ∧ Spot goodM mn Lm s1, ?_, ?_⟩
        · refine ⟨_, rfl, bx, q, 2, rfl, B4', by decide, by decide, fun u J5' u0 u1 B5 k5 => ⟨rfl, _, rfl, ite2 (fun _ => ?_) (fun _ => ?_)⟩⟩
          · have LA5 := LA4'.xt B4' k5.xt
            have LM5 := LM4'.xt B4' k5.xt
            have T5 := tabs_xt B4' k5.xt T4'
            have hsp5 := k5.xt _ _ spb hsp'
            clear LA4' LM4' B4' T4' hsp' k5
            refine seq_asg ⟨_, rfl, _, rfl, cm, _, rfl, .inl (SqL.of LM5.at_), _, _, rfl, rfl, bx, q, _, rfl, B5, by rw [List.length_map]; omega, by rw [List.length_map]; omega, fun z J6 z0 z1 B6 k6 => ⟨_, rfl, sp, _, 1, 1, rfl, rfl, k6.xt _ _ spb hsp5, rfl, ?_⟩⟩
            have z1 : z < ((Ms.length + 1 : Nat) : Int) := by
              rw [List.length_map] at z1
              omega
            have hsp6 := k6.xt _ _ spb hsp5
            have LM6 := (LM5.xt B5 k6.xt).put (xs := ([s0, V.non].set 1 (V.int z))) hsp6 dsm
            have LA6 := (LA5.xt B5 k6.xt).put (xs := ([s0, V.non].set 1 (V.int z))) hsp6 dsa
            have T6 := tabs_but hsp6 (Xt.refl sp J6).put (tabs_xt B5 k6.xt T5) (H' := upd J6 sp (.lst ([s0, V.non].set 1 (V.int z))))
            have B7 : Bx (upd J6 sp (.lst ([s0, V.non].set 1 (V.int z)))) bx q := B6.upd spb (dqs)
            have hsp7 : (upd J6 sp (.lst ([s0, V.non].set 1 (V.int z)))) sp = some (.lst [s0, .int z]) := upd_same
            refine (show tDrop _ _ _ _ from ⟨_, rfl, .inl ⟨rfl, _, SqL.of LM6.at_⟩, _, rfl, sp, _, 1, .int z, rfl, rfl, SqL.of hsp7, atI_nat (j := 1) rfl, _, rfl, _, rfl, mn, 0, rfl, ?_⟩)
            generalize upd J6 sp (.lst ([s0, V.non].set 1 (V.int z))) = J7 at LM6 LA6 T6 B7 hsp7 ⊢
            clear LM5 LA5 T5 B5 B6 k6 hsp5 hsp6
            have mx0 : (0 : Int) ≤ (if (0 : Int) > mn then 0 else mn) := by
              split <;> omega
            have mx9 : (if (0 : Int) > mn then 0 else mn) < 2 ^ 90 := by
              split <;> omega
            have mxe : 0 ≤ mn ∧ mn ≤ 81 → (if (0 : Int) > mn then 0 else mn) = mn := fun h => by
              rw [if_neg (by omega)]
            generalize (if (0 : Int) > mn then 0 else mn) = mx at mx0 mx9 mxe ⊢
            refine ⟨by show 2 ≤ sizeLine; decide, fun tt ntt => ⟨bx, q, mx, tt, _, rfl, B7.new ntt, upd_same, mx0, mx9, .inr rfl, fun p1 k1 J8 hp1 hk1 B8 x8 => ?_⟩⟩
            have x78 : Xt bx J7 J8 := ((Xt.refl bx J7).new ntt).trans x8
            have LM8 := LM6.xt B7 x78
            have LA8 := LA6.xt B7 x78
            have T8 := tabs_xt B7 x78 T6
            have hsp8 := x78 _ _ spb hsp7
            clear LM6 LA6 T6 B7 hsp7 x78 x8 ntt
            obtain ⟨rk, bk⟩ : R2' k1 ∧ (mx ≤ 81 → goodM mx k1 = false) := by
              rcases hk1 with ⟨e, h1, h2⟩ | ⟨e, h1, h2⟩
              · cases e
              · exact ⟨h1, h2⟩
            refine ⟨cm, refs Ms, z, _, rfl, rfl, LM8.at_, small1000 (by rw [List.length_map]; omega), z0, by omega, ?_⟩
            obtain ⟨iz, rfl⟩ : ∃ k : Nat, z = (k : Int) := ⟨z.toNat, by omega⟩
            have dc2 : sp ≠ cm := dsm.symm
            have spot : 0 ≤ mn ∧ mn ≤ 81 → FirstBad (goodM mn) (Ms.take iz ++ [(p1, k1)] ++ Ms.drop iz) iz := fun h => spot_ins (by omega) (gMs h) (by have := bk (by rw [mxe h]; omega); rw [mxe h] at this; exact this)
            exact ⟨_, _, _, _, rfl, LA8.put LM8.at_ dcm, LM8.ins lM60 hp1 rk, by rw [upd_ne dc2]; exact hsp8, B8.upd (bx_nr B8 LM8.at_) dqm, tabs_but LM8.at_ (Xt.refl cm J8).put T8, .inr ⟨iz, rfl, spot⟩⟩
          · exact ⟨_, _, Ms, _, rfl, LA4'.xt B4' k5.xt, LM4'.xt B4' k5.xt, k5.xt _ _ spb hsp', B5, tabs_xt B4' k5.xt T4', .inl ⟨rfl, gMs⟩⟩
        · rintro σ J6 ⟨y2, y8, Lm, s1, rfl, LA6, LM6, hsp6, B6, T6, spM⟩
          clear LA4' LM4' hsp' B4' T4'
          refine seq_set (te_cut (fun v J => Same J6 J ∧ ((∃ (i : Nat) (t : Addr), s1 = .int (i : Nat) ∧ v = .ref t ∧ J t = some (.tup [V.str "BadMark", .int (i : Nat)])) ∨ (s1 = .non ∧ v = .non))) (fun Q' kq => ?_) fun v1 J7 ⟨s67, du1⟩ => ?_)
          · refine ⟨_, rfl, sp, _, 1, s1, rfl, rfl, SqL.of hsp6, atI_nat (j := 1) rfl, rfl, _, rfl, ?_⟩
            rcases spM with ⟨rfl, _⟩ | ⟨i1, rfl, _⟩
            · exact iteT (kq _ _ ⟨Same.refl _, .inr ⟨rfl, rfl⟩⟩)
            · refine iteF ⟨_, rfl, sp, _, 1, _, rfl, rfl, SqL.of hsp6, atI_nat (j := 1) rfl, by show 2 ≤ sizeLine; decide, fun t nt => kq _ _ ⟨same_upd nt, .inl ⟨i1, t, rfl, rfl, upd_same⟩⟩⟩
          have hsp7 := s67 _ _ hsp6
          refine seq_set (te_cut (fun v J => Same J7 J ∧ ((∃ (i : Nat) (t : Addr), s0 = .int (i : Nat) ∧ v = .ref t ∧ J t = some (.tup [V.str "BadArrow", .int (i : Nat)])) ∨ (s0 = .non ∧ v = v1))) (fun Q' kq => ?_) fun v2 J8 ⟨s78, du2⟩ => ?_)
          · refine ⟨_, rfl, sp, _, 0, s0, rfl, rfl, SqL.of hsp7, atI_nat (j := 0) rfl, rfl, _, rfl, ?_⟩
            rcases spA with ⟨rfl, _⟩ | ⟨i1, rfl, _⟩
            · exact iteT ⟨_, rfl, kq _ _ ⟨Same.refl _, .inr ⟨rfl, rfl⟩⟩⟩
            · refine iteF ⟨_, rfl, sp, _, 0, _, rfl, rfl, SqL.of hsp7, atI_nat (j := 0) rfl, by show 2 ≤ sizeLine; decide, fun t nt => kq _ _ ⟨same_upd nt, .inl ⟨i1, t, rfl, rfl, upd_same⟩⟩⟩
          refine seq_set (te_cut (fun v J => Same J8 J ∧ ((¬ (0 ≤ mn ∧ mn ≤ 81) ∧ ∃ t, v = .ref t ∧ J t = some (.tup [V.str "BadSize", .int mn])) ∨ ((0 ≤ mn ∧ mn ≤ 81) ∧ v = v2))) (fun Q' kq => ?_) fun v3 J9 ⟨s89, du3⟩ => ?_)
          · refine ⟨_, rfl, _, _, rfl, rfl, _, rfl, ?_⟩
            by_cases h0 : (0 : Int) ≤ mn
            · rw [decide_eq_true h0]
              refine iteT ⟨_, _, rfl, rfl, _, rfl, ?_⟩
              by_cases h1 : mn ≤ (81 : Int)
              · rw [decide_eq_true h1]
                exact iteT ⟨_, rfl, kq _ _ ⟨Same.refl _, .inr ⟨⟨h0, h1⟩, rfl⟩⟩⟩
              · rw [decide_eq_false h1]
                exact iteF ⟨_, rfl, by show 2 ≤ sizeLine; decide, fun t nt => kq _ _ ⟨same_upd nt, .inl ⟨fun z => h1 z.2, t, rfl, upd_same⟩⟩⟩
            · rw [decide_eq_false h0]
              exact ⟨_, rfl, iteF ⟨_, rfl, by show 2 ≤ sizeLine; decide, fun t nt => kq _ _ ⟨same_upd nt, .inl ⟨fun z => h0 z.1, t, rfl, upd_same⟩⟩⟩⟩
          have s69 := (s67.trans s78).trans s89
          have due : Due J9 v3 mn s0 s1 := by
            rcases du3 with ⟨h, t, e, ht⟩ | ⟨h, rfl⟩
            · exact .inl ⟨h, t, e, ht⟩
            · rcases du2 with ⟨i, t, e1, e2, ht⟩ | ⟨e0, rfl⟩
              · exact .inr ⟨h, .inl ⟨i, t, e1, e2, s89 _ _ ht⟩⟩
              · rcases du1 with ⟨i, t, e1, e2, ht⟩ | h1
                · exact .inr ⟨h, .inr ⟨e0, .inl ⟨i, t, e1, e2, s89 _ _ (s78 _ _ ht)⟩⟩⟩
                · exact .inr ⟨h, .inr ⟨e0, .inr h1⟩⟩
          have LA9 := LA6.same s69
          have LM9 := LM6.same s69
          have B9 := bx_same s69 B6
          have T9 := T6.ext s69
          clear LA6 LM6 B6 T6 s69 s67 s78 s89 du1 du2 du3 hsp6 hsp7
          refine ⟨T9, fun J10 e10 T10 E1 Q1 hE hQ => ?_⟩
          have LA10 := LA9.extN e10
          have LM10 := LM9.extN e10
          have B10 := bx_extN e10 B9
          have due10 := due.extN e10
          clear LA9 LM9 B9 T9 e10 due
          have fin : ∀ {d : Addr} {J : Hp} {C' fI' : Addr} {wd fl : Str} {v : Int}, Same J10 J → J d = some (xdE wd fl (.int v)) → AtC K e C' fl → ErrC K C' fI' fl → fl ≠ "word" → (∃ t, v3 = .ref t ∧ J10 t = some (.tup [V.str wd, .int v])) → E1 (.ref C') (some d) J := fun {d J C' fI' wd fl v} sm hd aC eC nw ⟨t, ev, ht⟩ => hE _ _ _ ⟨C', fI', d, fl, wd, .int v, rfl, aC, eC, rfl, hd, nw, fun p1 np1 => by
            subst ev
            have s11 := sm.trans (same_upd (o := .tup [V.str wd, .int v]) np1)
            exact ⟨_, rfl, .ref p1, .ref t, rfl, sv_pair upd_same (s11 _ _ ht), fun Jz sz => ⟨true, rfl, iteF ⟨_, _, _, _, _, _, _, rfl, bx_same (s11.trans sz) B10, T10.ext (s11.trans sz)⟩⟩⟩⟩
          refine ⟨_, rfl, _, rfl, _, rfl, rfl, rfl, fun x dx nx ndx ne => ?_⟩
          refine mkX_use nx ndx ne ⟨.inl (SqL.of LA10.at_), fun z hz => (LA10.q z hz).1⟩ (fun z hz => (LA10.q z hz).2) (by have := LA10.len; omega) ⟨.inl (SqL.of LM10.at_), fun z hz => (LM10.q z hz).1⟩ (fun z hz => (LM10.q z hz).2) (by have := LM10.len; omega) (fun hn gA gM J' Us Vs _ _ _ s11 => hQ _ _ ?_) (fun hn d J' nd hd sm => fin sm hd aS eS (by decide) ?_) (fun hn i fb d J' nd hd sm => fin sm hd aA eA (by decide) ?_) (fun hn gA i fb d J' nd hd sm => fin sm hd aM eM (by decide) ?_)
          · have ev : v3 = .non := by
              rcases due10 with ⟨h, _⟩ | ⟨_, ⟨i, t, e1, _⟩ | ⟨_, ⟨i, t, e1, _⟩ | ⟨_, e⟩⟩⟩
              · exact absurd hn h
              · rcases spA with ⟨e2, _⟩ | ⟨i2, _, fb⟩
                · rw [e2] at e1
                  cases e1
                · exact (not_first gA (fb hn)).elim
              · rcases spM with ⟨e2, _⟩ | ⟨i2, _, fb⟩
                · rw [e2] at e1
                  cases e1
                · exact (not_first gM (fb hn)).elim
              · exact e
            subst ev
            exact ⟨_, rfl, .non, .non, rfl, .inl ⟨rfl, rfl⟩, fun Jz sz => ⟨true, rfl, iteF ⟨_, _, _, _, _, _, _, rfl, bx_same (s11.trans sz) B10, T10.ext (s11.trans sz)⟩⟩⟩
          · rcases due10 with ⟨_, h⟩ | ⟨h, _⟩
            · exact h
            · exact absurd h hn
          · rcases due10 with ⟨h, _⟩ | ⟨_, ⟨i2, t, e1, e2, ht⟩ | ⟨e0, _⟩⟩
            · exact absurd hn h
            · rcases spA with ⟨e3, _⟩ | ⟨i3, e3, fb3⟩
              · rw [e3] at e1
                cases e1
              · rw [e3] at e1
                have : i2 = i := by
                  have h1 := V.int.inj e1
                  have h2 := first_eq (fb3 hn) fb
                  omega
                subst this
                exact ⟨t, e2, ht⟩
            · rcases spA with ⟨_, h⟩ | ⟨i3, e3, _⟩
              · exact (not_first (h hn) fb).elim
              · rw [e3] at e0
                cases e0
          · rcases due10 with ⟨h, _⟩ | ⟨_, ⟨i2, t, e1, e2, ht⟩ | ⟨e0, ⟨i2, t, e1, e2, ht⟩ | ⟨e1, _⟩⟩⟩
            · exact absurd hn h
            · rcases spA with ⟨e3, _⟩ | ⟨i3, e3, fb3⟩
              · rw [e3] at e1
                cases e1
              · exact (not_first gA (fb3 hn)).elim
            · rcases spM with ⟨e3, _⟩ | ⟨i3, e3, fb3⟩
              · rw [e3] at e1
                cases e1
              · rw [e3] at e1
                have : i2 = i := by
                  have h1 := V.int.inj e1
                  have h2 := first_eq (fb3 hn) fb
                  omega
                subst this
                exact ⟨t, e2, ht⟩
            · rcases spM with ⟨_, h⟩ | ⟨i3, e3, _⟩
              · exact (not_first (h hn) fb).elim
              · rw [e3] at e1
                cases e1
    · rintro σ J ⟨y2, y3, y4, y5, y6, y7, y8, rfl, B, T⟩
      refine ⟨T, fun J1 e1 T1' E1 Q1 hE hQ => ?_⟩
      refine ⟨by show 3 ≤ sizeLine; decide, fun t nt => ⟨by show 1 ≤ sizeLine; decide, fun l nl => ⟨rfl, rfl, fun x dx nx ndx ne => ?_⟩⟩⟩
      have bad0 : ¬ goodA 0 [.inr "a", .inl 0, .inl 0] = true := by decide +kernel
      have st := same_upd (o := .lst [.ref t]) nl
      have ht : (upd (upd J1 t (.tup [.str "a", .int 0, .int 0])) l (.lst [.ref t])) t = some (.tup (([.inr "a", .inl 0, .inl 0] : List Key).map kV)) := st _ _ upd_same
      have hl : (upd (upd J1 t (.tup [.str "a", .int 0, .int 0])) l (.lst [.ref t])) l = some (.lst (refs [(t, [.inr "a", .inl 0, .inl 0])])) := upd_same
      refine mkX_use (ka := [(t, [.inr "a", .inl 0, .inl 0])]) (km := []) nx ndx ne ⟨.inl (SqL.of hl), fun z hz => by rw [List.mem_singleton.mp hz]; exact SqT.of ht⟩ (fun z hz => by rw [List.mem_singleton.mp hz]; exact ⟨_, _, _, rfl⟩) (by show 1 < 64; decide) ⟨.inr (em _), (fun z hz => nomatch hz)⟩ (fun z hz => nomatch hz) (by show 0 < 64; decide) (fun hn gA => ?_) (fun hn => absurd ⟨by decide, by decide⟩ hn) (fun hn i fb d J2 nd hd sm => hE _ _ _ ⟨e.ba, fA, d, "at", "BadArrow", .int (i : Nat), rfl, aA, eA, rfl, hd, by decide, fun p1 np1 => ?_⟩) (fun hn gA => ?_)
      · exact absurd (gA _ (List.mem_singleton.mpr rfl)) bad0
      · obtain ⟨hi, _⟩ := fb
        obtain rfl : i = 0 := by
          have : i < 1 := hi
          omega
        refine ⟨by show 2 ≤ sizeLine; decide, fun t2 nt2 => ?_⟩
        have s2 := same_upd (o := .tup [V.str "BadArrow", .int 0]) nt2
        refine ⟨tD [.inr "BadArrow", .inl 0], tD [.inr "BadArrow", .inl 0], dp_tie (SqT.of (s2 _ _ upd_same)), dp_tie (SqT.of upd_same), by decide +kernel, by decide +kernel, true, ?_, ?_⟩
        · rw [eqv_tie, decide_eq_true rfl]
        · refine iteT fun x2 dx2 nx2 ndx2 ne2 => ?_
          refine mkX_use (ka := []) (km := []) nx2 ndx2 ne2 ⟨.inr (ea _), (fun z hz => nomatch hz)⟩ (fun z hz => nomatch hz) (by show 0 < 64; decide) ⟨.inr (em _), (fun z hz => nomatch hz)⟩ (fun z hz => nomatch hz) (by show 0 < 64; decide) (fun hn gA gM J' Us Vs Wx _ _ s3 => ?_) (fun hn => absurd ⟨by decide, by decide⟩ hn) (fun hn i fb => (no_first fb).elim) (fun hn gA i fb => (no_first fb).elim)
          have X := Wx J' fun c o _ h => h
          obtain ⟨dx3, pl, ar, mr, ow, bw, hx3, _⟩ := id X.ex
          refine ⟨x2, dx3, _, rfl, hx3, rfl, x2, 81, Us, Vs, rfl, X, by decide, rfl, ?_⟩
          exact KQ _
      · exact absurd (gA _ (List.mem_singleton.mpr rfl)) bad0
end
end Wb
namespace Wb
open PySem PySem.Spec PyProof.Rows L2 RZ Sg Tm
def fI (K : PySem.W.Frag) (C : Addr) (x : Str) (v : Option Value) : Bool := decide (PySem.W.findIn K (.ref C) x = some v)
theorem nd {K : PySem.W.Frag} {C : Addr} {x : Str} (h : fI K C x none = true) : NoAttr K C x := (of_decide_eq_true h : PySem.W.findIn K (.ref C) x = some none)
theorem all_get {l : List Bool} (h : l.all id = true) (n : Nat) {b : Bool} (e : l[n]? = some b) : b = true := List.all_eq_true.mp h b (List.mem_of_getElem? e)
set_option maxHeartbeats 4000000 in
theorem all_mk {l : PySem.W.OpenLaw} {w : World} {K : PySem.W.Frag} {h : Heap} {mg : Str → Option Value} {fa : Addr} {f_sRA : Addr}
    {oc_sRA kV_sRA dc_sRA pm_sRA cd_sRA ct_sRA : Value} {od_sRA an_sRA : Option Addr} {sl_sRA : Array (Option Value)}
    {f_sRM : Addr}
    {oc_sRM kV_sRM dc_sRM pm_sRM cd_sRM ct_sRM : Value} {od_sRM an_sRM : Option Addr} {sl_sRM : Array (Option Value)}
    {f_sGat : Addr}
    {oc_sGat kV_sGat dc_sGat pm_sGat cd_sGat ct_sGat : Value} {od_sGat an_sGat : Option Addr} {sl_sGat : Array (Option Value)}
    {f_sBox : Addr}
    {oc_sBox kV_sBox dc_sBox pm_sBox cd_sBox ct_sBox : Value} {od_sBox an_sBox : Option Addr} {sl_sBox : Array (Option Value)}
    {f_sTake : Addr}
    {oc_sTake kV_sTake dc_sTake pm_sTake cd_sTake ct_sTake : Value} {od_sTake an_sTake : Option Addr} {sl_sTake : Array (Option Value)}
    {f_sOne : Addr}
    {oc_sOne kV_sOne dc_sOne pm_sOne cd_sOne ct_sOne : Value} {od_sOne an_sOne : Option Addr} {sl_sOne : Array (Option Value)}
    {f_sSame : Addr}
    {oc_sSame kV_sSame dc_sSame pm_sSame cd_sSame ct_sSame : Value} {od_sSame an_sSame : Option Addr} {sl_sSame : Array (Option Value)}
    {f_sUnlike : Addr}
    {oc_sUnlike kV_sUnlike dc_sUnlike pm_sUnlike cd_sUnlike ct_sUnlike : Value} {od_sUnlike an_sUnlike : Option Addr} {sl_sUnlike : Array (Option Value)}
    {f_sHue : Addr}
    {oc_sHue kV_sHue dc_sHue pm_sHue cd_sHue ct_sHue : Value} {od_sHue an_sHue : Option Addr} {sl_sHue : Array (Option Value)}
    {f_sSign : Addr}
    {oc_sSign kV_sSign dc_sSign pm_sSign cd_sSign ct_sSign : Value} {od_sSign an_sSign : Option Addr} {sl_sSign : Array (Option Value)}
    {f_sArrow : Addr}
    {oc_sArrow kV_sArrow dc_sArrow pm_sArrow cd_sArrow ct_sArrow : Value} {od_sArrow an_sArrow : Option Addr} {sl_sArrow : Array (Option Value)}
    {f_sWeb : Addr}
    {oc_sWeb kV_sWeb dc_sWeb pm_sWeb cd_sWeb ct_sWeb : Value} {od_sWeb an_sWeb : Option Addr} {sl_sWeb : Array (Option Value)}
    {f_sAt : Addr}
    {oc_sAt kV_sAt dc_sAt pm_sAt cd_sAt ct_sAt : Value} {od_sAt an_sAt : Option Addr} {sl_sAt : Array (Option Value)}
    {f_s_law_bad_tie : Addr}
    {oc_s_law_bad_tie kV_s_law_bad_tie dc_s_law_bad_tie pm_s_law_bad_tie cd_s_law_bad_tie ct_s_law_bad_tie : Value} {od_s_law_bad_tie an_s_law_bad_tie : Option Addr} {sl_s_law_bad_tie : Array (Option Value)}
    {f_sLaw : Addr}
    {cL PT : Addr}
    {oc_sLaw kV_sLaw dc_sLaw pm_sLaw ct_sLaw : Value} {od_sLaw an_sLaw : Option Addr} {sl_sLaw : Array (Option Value)}
    {ecL : Value} {dcL : Option Addr} {vsL : Array Value} {slL : Array (Option Value)}
    {C f_sInit D ta tm : Addr}
    {oc_sInit dc_sInit pm_sInit cd_sInit ct_sInit : Value} {od_sInit an_sInit : Option Addr} {sl_sInit : Array (Option Value)}
    {odta : Option Addr} {nta : Nat} {slta : Array (Option Value)}
    {odtm : Option Addr} {ntm : Nat} {sltm : Array (Option Value)}
    {t1 t2 t3 : Tok}
    {f_sPoints : Addr}
    {oc_sPoints kV_sPoints dc_sPoints pm_sPoints cd_sPoints ct_sPoints : Value} {od_sPoints an_sPoints : Option Addr} {sl_sPoints : Array (Option Value)}
    {C_ba : Addr}
    {C_bm : Addr}
    {C_bt : Addr}
    {C_bs : Addr}
    {C_sz : Addr}
    {C_pt : Addr}
    {C_nu : Addr}
    {C_tm : Addr}
    {f_sEBadSize : Addr}
    {oc_sEBadSize kV_sEBadSize dc_sEBadSize pm_sEBadSize cd_sEBadSize ct_sEBadSize : Value} {od_sEBadSize an_sEBadSize : Option Addr} {sl_sEBadSize : Array (Option Value)}
    {f_sEBadArrow : Addr}
    {oc_sEBadArrow kV_sEBadArrow dc_sEBadArrow pm_sEBadArrow cd_sEBadArrow ct_sEBadArrow : Value} {od_sEBadArrow an_sEBadArrow : Option Addr} {sl_sEBadArrow : Array (Option Value)}
    {f_sEBadMark : Addr}
    {oc_sEBadMark kV_sEBadMark dc_sEBadMark pm_sEBadMark cd_sEBadMark ct_sEBadMark : Value} {od_sEBadMark an_sEBadMark : Option Addr} {sl_sEBadMark : Array (Option Value)}
    (X : K.In h) (G : h.Ns mainGlobals mg) (hfa : mg "law" = some (.ref fa)) (own : LamX.OwnTab K fa h) 
    (a_sRA : PySem.W.nsIn K mainGlobals "refuse_bad_arrows" = some (some (.ref f_sRA)))
    (l_sRA : K.lookup f_sRA = some ⟨oc_sRA, od_sRA, .func (PySem.W.fnOf "refuse_bad_arrows" "refuse_bad_arrows" (defArgs sRA) (defBody sRA) (defScope sRA) .none kV_sRA dc_sRA pm_sRA an_sRA cd_sRA ct_sRA), sl_sRA⟩)
    (c_sRA : PySem.W.codeIn K cd_sRA "refuse_bad_arrows" = true)
    (k_sRA : PySem.W.keepIn K (.ref f_sRA) = true)
    (a_sRM : PySem.W.nsIn K mainGlobals "refuse_bad_marks" = some (some (.ref f_sRM)))
    (l_sRM : K.lookup f_sRM = some ⟨oc_sRM, od_sRM, .func (PySem.W.fnOf "refuse_bad_marks" "refuse_bad_marks" (defArgs sRM) (defBody sRM) (defScope sRM) .none kV_sRM dc_sRM pm_sRM an_sRM cd_sRM ct_sRM), sl_sRM⟩)
    (c_sRM : PySem.W.codeIn K cd_sRM "refuse_bad_marks" = true)
    (k_sRM : PySem.W.keepIn K (.ref f_sRM) = true)
    (a_sGat : PySem.W.nsIn K mainGlobals "gathered" = some (some (.ref f_sGat)))
    (l_sGat : K.lookup f_sGat = some ⟨oc_sGat, od_sGat, .func (PySem.W.fnOf "gathered" "gathered" (defArgs sGat) (defBody sGat) (defScope sGat) .none kV_sGat dc_sGat pm_sGat an_sGat cd_sGat ct_sGat), sl_sGat⟩)
    (c_sGat : PySem.W.codeIn K cd_sGat "gathered" = true)
    (k_sGat : PySem.W.keepIn K (.ref f_sGat) = true)
    (a_sBox : PySem.W.nsIn K mainGlobals "_law_box" = some (some (.ref f_sBox)))
    (l_sBox : K.lookup f_sBox = some ⟨oc_sBox, od_sBox, .func (PySem.W.fnOf "_law_box" "_law_box" (defArgs sBox) (defBody sBox) (defScope sBox) .none kV_sBox dc_sBox pm_sBox an_sBox cd_sBox ct_sBox), sl_sBox⟩)
    (c_sBox : PySem.W.codeIn K cd_sBox "_law_box" = true)
    (k_sBox : PySem.W.keepIn K (.ref f_sBox) = true)
    (a_sTake : PySem.W.nsIn K mainGlobals "_law_take" = some (some (.ref f_sTake)))
    (l_sTake : K.lookup f_sTake = some ⟨oc_sTake, od_sTake, .func (PySem.W.fnOf "_law_take" "_law_take" (defArgs sTake) (defBody sTake) (defScope sTake) .none kV_sTake dc_sTake pm_sTake an_sTake cd_sTake ct_sTake), sl_sTake⟩)
    (c_sTake : PySem.W.codeIn K cd_sTake "_law_take" = true)
    (k_sTake : PySem.W.keepIn K (.ref f_sTake) = true)
    (a_sOne : PySem.W.nsIn K mainGlobals "_law_one" = some (some (.ref f_sOne)))
    (l_sOne : K.lookup f_sOne = some ⟨oc_sOne, od_sOne, .func (PySem.W.fnOf "_law_one" "_law_one" (defArgs sOne) (defBody sOne) (defScope sOne) .none kV_sOne dc_sOne pm_sOne an_sOne cd_sOne ct_sOne), sl_sOne⟩)
    (c_sOne : PySem.W.codeIn K cd_sOne "_law_one" = true)
    (k_sOne : PySem.W.keepIn K (.ref f_sOne) = true)
    (a_sSame : PySem.W.nsIn K mainGlobals "_law_same" = some (some (.ref f_sSame)))
    (l_sSame : K.lookup f_sSame = some ⟨oc_sSame, od_sSame, .func (PySem.W.fnOf "_law_same" "_law_same" (defArgs sSame) (defBody sSame) (defScope sSame) .none kV_sSame dc_sSame pm_sSame an_sSame cd_sSame ct_sSame), sl_sSame⟩)
    (c_sSame : PySem.W.codeIn K cd_sSame "_law_same" = true)
    (k_sSame : PySem.W.keepIn K (.ref f_sSame) = true)
    (a_sUnlike : PySem.W.nsIn K mainGlobals "_law_unlike" = some (some (.ref f_sUnlike)))
    (l_sUnlike : K.lookup f_sUnlike = some ⟨oc_sUnlike, od_sUnlike, .func (PySem.W.fnOf "_law_unlike" "_law_unlike" (defArgs sUnlike) (defBody sUnlike) (defScope sUnlike) .none kV_sUnlike dc_sUnlike pm_sUnlike an_sUnlike cd_sUnlike ct_sUnlike), sl_sUnlike⟩)
    (c_sUnlike : PySem.W.codeIn K cd_sUnlike "_law_unlike" = true)
    (k_sUnlike : PySem.W.keepIn K (.ref f_sUnlike) = true)
    (a_sHue : PySem.W.nsIn K mainGlobals "_law_hue" = some (some (.ref f_sHue)))
    (l_sHue : K.lookup f_sHue = some ⟨oc_sHue, od_sHue, .func (PySem.W.fnOf "_law_hue" "_law_hue" (defArgs sHue) (defBody sHue) (defScope sHue) .none kV_sHue dc_sHue pm_sHue an_sHue cd_sHue ct_sHue), sl_sHue⟩)
    (c_sHue : PySem.W.codeIn K cd_sHue "_law_hue" = true)
    (k_sHue : PySem.W.keepIn K (.ref f_sHue) = true)
    (a_sSign : PySem.W.nsIn K mainGlobals "_law_sign" = some (some (.ref f_sSign)))
    (l_sSign : K.lookup f_sSign = some ⟨oc_sSign, od_sSign, .func (PySem.W.fnOf "_law_sign" "_law_sign" (defArgs sSign) (defBody sSign) (defScope sSign) .none kV_sSign dc_sSign pm_sSign an_sSign cd_sSign ct_sSign), sl_sSign⟩)
    (c_sSign : PySem.W.codeIn K cd_sSign "_law_sign" = true)
    (k_sSign : PySem.W.keepIn K (.ref f_sSign) = true)
    (a_sArrow : PySem.W.nsIn K mainGlobals "_law_arrow" = some (some (.ref f_sArrow)))
    (l_sArrow : K.lookup f_sArrow = some ⟨oc_sArrow, od_sArrow, .func (PySem.W.fnOf "_law_arrow" "_law_arrow" (defArgs sArrow) (defBody sArrow) (defScope sArrow) .none kV_sArrow dc_sArrow pm_sArrow an_sArrow cd_sArrow ct_sArrow), sl_sArrow⟩)
    (c_sArrow : PySem.W.codeIn K cd_sArrow "_law_arrow" = true)
    (k_sArrow : PySem.W.keepIn K (.ref f_sArrow) = true)
    (a_sWeb : PySem.W.nsIn K mainGlobals "_law_web" = some (some (.ref f_sWeb)))
    (l_sWeb : K.lookup f_sWeb = some ⟨oc_sWeb, od_sWeb, .func (PySem.W.fnOf "_law_web" "_law_web" (defArgs sWeb) (defBody sWeb) (defScope sWeb) .none kV_sWeb dc_sWeb pm_sWeb an_sWeb cd_sWeb ct_sWeb), sl_sWeb⟩)
    (c_sWeb : PySem.W.codeIn K cd_sWeb "_law_web" = true)
    (k_sWeb : PySem.W.keepIn K (.ref f_sWeb) = true)
    (a_sAt : PySem.W.nsIn K mainGlobals "_law_at" = some (some (.ref f_sAt)))
    (l_sAt : K.lookup f_sAt = some ⟨oc_sAt, od_sAt, .func (PySem.W.fnOf "_law_at" "_law_at" (defArgs sAt) (defBody sAt) (defScope sAt) .none kV_sAt dc_sAt pm_sAt an_sAt cd_sAt ct_sAt), sl_sAt⟩)
    (c_sAt : PySem.W.codeIn K cd_sAt "_law_at" = true)
    (k_sAt : PySem.W.keepIn K (.ref f_sAt) = true)
    (a_s_law_bad_tie : PySem.W.nsIn K mainGlobals "_law_bad_tie" = some (some (.ref f_s_law_bad_tie)))
    (l_s_law_bad_tie : K.lookup f_s_law_bad_tie = some ⟨oc_s_law_bad_tie, od_s_law_bad_tie, .func (PySem.W.fnOf "_law_bad_tie" "_law_bad_tie" (defArgs s_law_bad_tie) (defBody s_law_bad_tie) (defScope s_law_bad_tie) .none kV_s_law_bad_tie dc_s_law_bad_tie pm_s_law_bad_tie an_s_law_bad_tie cd_s_law_bad_tie ct_s_law_bad_tie), sl_s_law_bad_tie⟩)
    (c_s_law_bad_tie : PySem.W.codeIn K cd_s_law_bad_tie "_law_bad_tie" = true)
    (k_s_law_bad_tie : PySem.W.keepIn K (.ref f_s_law_bad_tie) = true)
    (a_sLaw : PySem.W.nsIn K mainGlobals "law" = some (some (.ref f_sLaw)))
    (l_sLaw : K.lookup f_sLaw = some ⟨oc_sLaw, od_sLaw, .func (PySem.W.fnOf "law" "law" (defArgs sLaw) (defBody sLaw) (defScope sLaw) .none kV_sLaw dc_sLaw pm_sLaw an_sLaw (.ref cL) ct_sLaw), sl_sLaw⟩)
    (c_sLaw : PySem.W.codeIn K (.ref cL) "law" = true)
    (k_sLaw : PySem.W.keepIn K (.ref f_sLaw) = true)
    (lcL : K.lookup cL = some ⟨ecL, dcL, .fields vsL, slL⟩)
    (v11 : vsL[11]? = some (.ref PT))
    (z_len : PySem.W.nsIn K mainGlobals "len" = some none)
    (z_list : PySem.W.nsIn K mainGlobals "list" = some none)
    (z_range : PySem.W.nsIn K mainGlobals "range" = some none)
    (z_isinstance : PySem.W.nsIn K mainGlobals "isinstance" = some none)
    (z_tuple : PySem.W.nsIn K mainGlobals "tuple" = some none)
    (z_bool : PySem.W.nsIn K mainGlobals "bool" = some none)
    (z_int : PySem.W.nsIn K mainGlobals "int" = some none)
    (z_str : PySem.W.nsIn K mainGlobals "str" = some none)
    (z_all : PySem.W.nsIn K mainGlobals "all" = some none)
    (z_zip : PySem.W.nsIn K mainGlobals "zip" = some none)
    (z_enumerate : PySem.W.nsIn K mainGlobals "enumerate" = some none)
    (z_set : PySem.W.nsIn K mainGlobals "set" = some none)
    (z_sorted : PySem.W.nsIn K mainGlobals "sorted" = some none)
    (z_max : PySem.W.nsIn K mainGlobals "max" = some none)
    (aC : PySem.W.nsIn K mainGlobals "Web" = some (some (.ref C)))
    (jI : PySem.W.findIn K (.ref C) "__init__" = some (some (.ref f_sInit)))
    (l_sInit : K.lookup f_sInit = some ⟨oc_sInit, od_sInit, .func (PySem.W.fnOf "__init__" "Web.__init__" (defArgs sInit) (defBody sInit) (defScope sInit) .none (.ref D) dc_sInit pm_sInit an_sInit cd_sInit ct_sInit), sl_sInit⟩)
    (c_sInit : PySem.W.codeIn K cd_sInit "Web.__init__" = true)
    (k_sInit : PySem.W.keepIn K (.ref f_sInit) = true)
    (da : PySem.W.nsIn K D "arrows" = some (some (.ref ta)))
    (dm : PySem.W.nsIn K D "marks" = some (some (.ref tm)))
    (eta : K.lookup ta = some ⟨.type "tuple", odta, .seq #[] nta, slta⟩)
    (etm : K.lookup tm = some ⟨.type "tuple", odtm, .seq #[] ntm, sltm⟩)
    (g1 : PySem.W.nsIn K mainGlobals "MOST_POINTS" = some (some (.int 81 t1)))
    (g2 : PySem.W.nsIn K mainGlobals "COLOURS" = some (some (.str "abc" t2)))
    (g3 : PySem.W.nsIn K mainGlobals "MARKS" = some (some (.str "pqr" t3)))
    (j_sPoints : PySem.W.findIn K (.ref C) "points" = some (some (.ref f_sPoints)))
    (l_sPoints : K.lookup f_sPoints = some ⟨oc_sPoints, od_sPoints, .func (PySem.W.fnOf "points" "Web.points" (defArgs sPoints) (defBody sPoints) (defScope sPoints) .none kV_sPoints dc_sPoints pm_sPoints an_sPoints cd_sPoints ct_sPoints), sl_sPoints⟩)
    (c_sPoints : PySem.W.codeIn K cd_sPoints "Web.points" = true)
    (k_sPoints : PySem.W.keepIn K (.ref f_sPoints) = true)
    (a_ba : PySem.W.nsIn K mainGlobals "BadArrow" = some (some (.ref C_ba)))
    (a_bm : PySem.W.nsIn K mainGlobals "BadMark" = some (some (.ref C_bm)))
    (a_bt : PySem.W.nsIn K mainGlobals "BadText" = some (some (.ref C_bt)))
    (a_bs : PySem.W.nsIn K mainGlobals "BadStrike" = some (some (.ref C_bs)))
    (a_sz : PySem.W.nsIn K mainGlobals "BadSize" = some (some (.ref C_sz)))
    (a_pt : PySem.W.nsIn K mainGlobals "BadPoint" = some (some (.ref C_pt)))
    (a_nu : PySem.W.nsIn K mainGlobals "BadNumber" = some (some (.ref C_nu)))
    (a_tm : PySem.W.nsIn K mainGlobals "TooMany" = some (some (.ref C_tm)))
    (j_sz : PySem.W.findIn K (.ref C_sz) "__init__" = some (some (.ref f_sEBadSize)))
    (l_sEBadSize : K.lookup f_sEBadSize = some ⟨oc_sEBadSize, od_sEBadSize, .func (PySem.W.fnOf "__init__" "BadSize.__init__" (defArgs sEBadSize) (defBody sEBadSize) (defScope sEBadSize) .none kV_sEBadSize dc_sEBadSize pm_sEBadSize an_sEBadSize cd_sEBadSize ct_sEBadSize), sl_sEBadSize⟩)
    (c_sEBadSize : PySem.W.codeIn K cd_sEBadSize "BadSize.__init__" = true)
    (k_sEBadSize : PySem.W.keepIn K (.ref f_sEBadSize) = true)
    (j_ba : PySem.W.findIn K (.ref C_ba) "__init__" = some (some (.ref f_sEBadArrow)))
    (l_sEBadArrow : K.lookup f_sEBadArrow = some ⟨oc_sEBadArrow, od_sEBadArrow, .func (PySem.W.fnOf "__init__" "BadArrow.__init__" (defArgs sEBadArrow) (defBody sEBadArrow) (defScope sEBadArrow) .none kV_sEBadArrow dc_sEBadArrow pm_sEBadArrow an_sEBadArrow cd_sEBadArrow ct_sEBadArrow), sl_sEBadArrow⟩)
    (c_sEBadArrow : PySem.W.codeIn K cd_sEBadArrow "BadArrow.__init__" = true)
    (k_sEBadArrow : PySem.W.keepIn K (.ref f_sEBadArrow) = true)
    (j_bm : PySem.W.findIn K (.ref C_bm) "__init__" = some (some (.ref f_sEBadMark)))
    (l_sEBadMark : K.lookup f_sEBadMark = some ⟨oc_sEBadMark, od_sEBadMark, .func (PySem.W.fnOf "__init__" "BadMark.__init__" (defArgs sEBadMark) (defBody sEBadMark) (defScope sEBadMark) .none kV_sEBadMark dc_sEBadMark pm_sEBadMark an_sEBadMark cd_sEBadMark ct_sEBadMark), sl_sEBadMark⟩)
    (c_sEBadMark : PySem.W.codeIn K cd_sEBadMark "BadMark.__init__" = true)
    (k_sEBadMark : PySem.W.keepIn K (.ref f_sEBadMark) = true)
    (ck : ([PySem.W.plainGet K C Str.empty, PySem.W.hasDictIn K C, PySem.W.plainOver K C, fI K C "__setattr__" (some (.builtin "object.__setattr__")), fI K C "places" none, fI K C "arrow_rows" none, fI K C "mark_rows" none, fI K C "onward" none, fI K C "backward" none, PySem.W.makesIn K C, fI K C "__init__" (some (.ref f_sInit)), PySem.W.isFn K (.ref f_sInit), PySem.W.keepIn K (.ref C), fI K C "points" (some (.ref f_sPoints)), PySem.W.isFn K (.ref f_sPoints), errB K C_sz f_sEBadSize "number", atB K ⟨C_ba, C_bm, C_bt, C_bs, C_sz, C_pt, C_nu, C_tm⟩ C_sz 1, errB K C_ba f_sEBadArrow "at", atB K ⟨C_ba, C_bm, C_bt, C_bs, C_sz, C_pt, C_nu, C_tm⟩ C_ba 0, errB K C_bm f_sEBadMark "at", atB K ⟨C_ba, C_bm, C_bt, C_bs, C_sz, C_pt, C_nu, C_tm⟩ C_bm 0, PySem.W.codeHdIn K cL PT, (K.lookup PT).isNone] : List Bool).all id = true) :
    LamX.LawAtS l w K CX0 8 63 "_law_script" mg fa h := by
  have e := hfa.symm.trans (PySem.W.mg_of X G a_sLaw)
  cases e
  have F_sRA := fun_mk (st := sRA) l_sRA c_sRA k_sRA
  have b_sRA := F_sRA.binds (ps := ["points", "arrows"]) fun _ _ _ _ _ _ us hl => match us, hl with | [_, _], _ => rfl
  have F_sRM := fun_mk (st := sRM) l_sRM c_sRM k_sRM
  have b_sRM := F_sRM.binds (ps := ["points", "marks"]) fun _ _ _ _ _ _ us hl => match us, hl with | [_, _], _ => rfl
  have F_sGat := fun_mk (st := sGat) l_sGat c_sGat k_sGat
  have b_sGat := F_sGat.binds (ps := ["rows"]) fun _ _ _ _ _ _ us hl => match us, hl with | [_], _ => rfl
  have F_sBox := fun_mk (st := sBox) l_sBox c_sBox k_sBox
  have b_sBox := F_sBox.binds (ps := ["_law_script"]) fun _ _ _ _ _ _ us hl => match us, hl with | [_], _ => rfl
  have F_sTake := fun_mk (st := sTake) l_sTake c_sTake k_sTake
  have b_sTake := F_sTake.binds (ps := ["_law_box_here", "_law_many"]) fun _ _ _ _ _ _ us hl => match us, hl with | [_, _], _ => rfl
  have F_sOne := fun_mk (st := sOne) l_sOne c_sOne k_sOne
  have b_sOne := F_sOne.binds (ps := ["_law_box_here", "_law_some"]) fun _ _ _ _ _ _ us hl => match us, hl with | [_, _], _ => rfl
  have F_sSame := fun_mk (st := sSame) l_sSame c_sSame k_sSame
  have b_sSame := F_sSame.binds (ps := ["_law_found", "_law_due"]) fun _ _ _ _ _ _ us hl => match us, hl with | [_, _], _ => rfl
  have F_sUnlike := fun_mk (st := sUnlike) l_sUnlike c_sUnlike k_sUnlike
  have b_sUnlike := F_sUnlike.binds (ps := ["_law_some"]) fun _ _ _ _ _ _ us hl => match us, hl with | [_], _ => rfl
  have F_sHue := fun_mk (st := sHue) l_sHue c_sHue k_sHue
  have b_sHue := F_sHue.binds (ps := ["_law_box_here"]) fun _ _ _ _ _ _ us hl => match us, hl with | [_], _ => rfl
  have F_sSign := fun_mk (st := sSign) l_sSign c_sSign k_sSign
  have b_sSign := F_sSign.binds (ps := ["_law_box_here"]) fun _ _ _ _ _ _ us hl => match us, hl with | [_], _ => rfl
  have F_sArrow := fun_mk (st := sArrow) l_sArrow c_sArrow k_sArrow
  have b_sArrow := F_sArrow.binds (ps := ["_law_box_here", "_law_many"]) fun _ _ _ _ _ _ us hl => match us, hl with | [_, _], _ => rfl
  have F_sWeb := fun_mk (st := sWeb) l_sWeb c_sWeb k_sWeb
  have b_sWeb := F_sWeb.binds (ps := ["_law_box_here", "_law_low", "_law_high"]) fun _ _ _ _ _ _ us hl => match us, hl with | [_, _, _], _ => rfl
  have F_sAt := fun_mk (st := sAt) l_sAt c_sAt k_sAt
  have b_sAt := F_sAt.binds (ps := ["_law_ask"]) fun _ _ _ _ _ _ us hl => match us, hl with | [_], _ => rfl
  have F_s_law_bad_tie := fun_mk (st := s_law_bad_tie) l_s_law_bad_tie c_s_law_bad_tie k_s_law_bad_tie
  have b_s_law_bad_tie := F_s_law_bad_tie.binds (ps := ["_law_box_here", "_law_many", "_law_tie"]) fun _ _ _ _ _ _ us hl => match us, hl with | [_, _, _], _ => rfl
  have F_sLaw := funC_mk (st := sLaw) l_sLaw c_sLaw k_sLaw
  have cl : Cls K C := ⟨(all_get ck 0 rfl), (all_get ck 1 rfl), (all_get ck 2 rfl), (of_decide_eq_true (all_get ck 3 rfl))⟩
  have wt : WT K mg C := ⟨cl, nd (all_get ck 4 rfl), nd (all_get ck 5 rfl), nd (all_get ck 6 rfl), nd (all_get ck 7 rfl), nd (all_get ck 8 rfl), (PySem.W.mg_none_of X G z_list), (PySem.W.mg_none_of X G z_range), (PySem.W.mg_none_of X G z_set), (PySem.W.mg_none_of X G z_sorted), ⟨_, PySem.W.mg_of X G g1⟩⟩
  have mk : Mk K C f_sInit := ⟨(all_get ck 9 rfl), (of_decide_eq_true (all_get ck 10 rfl)), (all_get ck 11 rfl), (all_get ck 12 rfl)⟩
  have FI : FunD K "__init__" "Web.__init__" (defArgs sInit) (defBody sInit) (defScope sInit) [] [("arrows", .ref ta), ("marks", .ref tm)] f_sInit _ := ⟨⟨oc_sInit, od_sInit, .none, .ref D, dc_sInit, pm_sInit, an_sInit, cd_sInit, ct_sInit, sl_sInit, rfl, l_sInit, c_sInit, .inl ⟨rfl, rfl⟩, .inr ⟨D, rfl, fun q hq => by
    simp only [List.mem_cons, List.not_mem_nil, or_false] at hq
    rcases hq with rfl | rfl
    · exact ⟨_, da, rfl⟩
    · exact ⟨_, dm, rfl⟩⟩⟩, k_sInit⟩
  have ea : ∀ H, SqT K H ta [] := fun H => .inr ⟨_, _, _, eta, rfl, rfl, Nat.zero_le _, .nil⟩
  have em : ∀ H, SqT K H tm [] := fun H => .inr ⟨_, _, _, etm, rfl, rfl, Nat.zero_le _, .nil⟩
  have F_sPoints := fun_mk (st := sPoints) l_sPoints c_sPoints k_sPoints
  have b_sPoints := F_sPoints.binds (ps := ["self"]) fun _ _ _ _ _ _ us hl => match us, hl with | [_], _ => rfl
  have AG : AtG mg ⟨C_ba, C_bm, C_bt, C_bs, C_sz, C_pt, C_nu, C_tm⟩ := ⟨PySem.W.mg_of X G a_ba, PySem.W.mg_of X G a_bm, PySem.W.mg_of X G a_bt, PySem.W.mg_of X G a_bs, PySem.W.mg_of X G a_sz, PySem.W.mg_of X G a_pt, PySem.W.mg_of X G a_nu, PySem.W.mg_of X G a_tm⟩
  have F_sEBadSize := fun_mk (st := sEBadSize) l_sEBadSize c_sEBadSize k_sEBadSize
  have b_sEBadSize := F_sEBadSize.binds (ps := ["self", "number"]) fun _ _ _ _ _ _ us hl => match us, hl with | [_, _], _ => rfl
  have er_sz : ErrC K C_sz f_sEBadSize "number" := errC_of (all_get ck 15 rfl)
  have at_sz : AtC K ⟨C_ba, C_bm, C_bt, C_bs, C_sz, C_pt, C_nu, C_tm⟩ C_sz "number" := atC1 (all_get ck 16 rfl)
  have F_sEBadArrow := fun_mk (st := sEBadArrow) l_sEBadArrow c_sEBadArrow k_sEBadArrow
  have b_sEBadArrow := F_sEBadArrow.binds (ps := ["self", "at"]) fun _ _ _ _ _ _ us hl => match us, hl with | [_, _], _ => rfl
  have er_ba : ErrC K C_ba f_sEBadArrow "at" := errC_of (all_get ck 17 rfl)
  have at_ba : AtC K ⟨C_ba, C_bm, C_bt, C_bs, C_sz, C_pt, C_nu, C_tm⟩ C_ba "at" := atC0 (all_get ck 18 rfl)
  have F_sEBadMark := fun_mk (st := sEBadMark) l_sEBadMark c_sEBadMark k_sEBadMark
  have b_sEBadMark := F_sEBadMark.binds (ps := ["self", "at"]) fun _ _ _ _ _ _ us hl => match us, hl with | [_, _], _ => rfl
  have er_bm : ErrC K C_bm f_sEBadMark "at" := errC_of (all_get ck 19 rfl)
  have at_bm : AtC K ⟨C_ba, C_bm, C_bt, C_bs, C_sz, C_pt, C_nu, C_tm⟩ C_bm "at" := atC0 (all_get ck 20 rfl)
  have nP : K.lookup PT = none := Option.isNone_iff_eq_none.mp (all_get ck 22 rfl)
  have hP : h.get? PT = some { cls := .none, data := .fields #[] } := own cL PT _ _ _ _ _ _ l_sLaw rfl rfl lcL v11
  refine ⟨PySem.W.fnOf "law" "law" (defArgs sLaw) (defBody sLaw) (defScope sLaw) .none kV_sLaw dc_sLaw pm_sLaw an_sLaw (.ref cL) ct_sLaw, [(cL, PT)], spLaw K PT, fun p hp => ?_, fun p hp => ?_, fun p hp => ?_, fun s v => .of_eq rfl, fun H a ns hl _ hT hS => ⟨a, ns, rfl, hS, hl, fun p hp => ?_, fun _ => rfl⟩, fun base _ _ hTB => ?_⟩
  · rw [List.mem_singleton.mp hp]
    exact hP
  · rw [List.mem_singleton.mp hp]
    exact nP
  · rw [List.mem_singleton.mp hp]
    exact PySem.W.codeHd_of_K X (all_get ck 21 rfl)
  · rw [List.mem_singleton.mp hp]
    exact LamX.TabS.nil (hT (cL, PT) (List.mem_singleton.mpr rfl))
  have TB := hTB (cL, PT) (List.mem_singleton.mpr rfl)
  have e_sz : EDf l.prog w K mg base "BadSize" "number" C_sz f_sEBadSize _ := ⟨ok_eBadSize F_sEBadSize er_sz, er_sz, PySem.W.mg_of X G a_sz, b_sEBadSize⟩
  have e_ba : EDf l.prog w K mg base "BadArrow" "at" C_ba f_sEBadArrow _ := ⟨ok_eBadArrow F_sEBadArrow er_ba, er_ba, PySem.W.mg_of X G a_ba, b_sEBadArrow⟩
  have e_bm : EDf l.prog w K mg base "BadMark" "at" C_bm f_sEBadMark _ := ⟨ok_eBadMark F_sEBadMark er_bm, er_bm, PySem.W.mg_of X G a_bm, b_sEBadMark⟩
  have o_sRA : DfX l.prog w K mg base 3 "refuse_bad_arrows" ["points", "arrows"] (spRAX K C_ba) f_sRA _ := ⟨ok_RAX F_sRA (PySem.W.mg_none_of X G z_list) (PySem.W.mg_none_of X G z_enumerate) (PySem.W.mg_of X G g2) e_ba, PySem.W.mg_of X G a_sRA, k_sRA, b_sRA⟩
  have o_sRM : DfX l.prog w K mg base 3 "refuse_bad_marks" ["points", "marks"] (spRMX K C_bm) f_sRM _ := ⟨ok_RMX F_sRM (PySem.W.mg_none_of X G z_list) (PySem.W.mg_none_of X G z_enumerate) (PySem.W.mg_of X G g3) e_bm, PySem.W.mg_of X G a_sRM, k_sRM, b_sRM⟩
  have o_sGat : Df l.prog w K mg base 1 "gathered" ["rows"] (spGat K) f_sGat _ := ⟨ok_gat F_sGat, PySem.W.mg_of X G a_sGat, k_sGat, b_sGat⟩
  have o_sBox : Df l.prog w K mg base 1 "_law_box" ["_law_script"] (spBox K) f_sBox _ := ⟨ok_box F_sBox (PySem.W.mg_none_of X G z_len) (PySem.W.mg_none_of X G z_list), PySem.W.mg_of X G a_sBox, k_sBox, b_sBox⟩
  have o_sTake : Df l.prog w K mg base 1 "_law_take" ["_law_box_here", "_law_many"] spTake f_sTake _ := ⟨ok_take F_sTake (PySem.W.mg_none_of X G z_len), PySem.W.mg_of X G a_sTake, k_sTake, b_sTake⟩
  have o_sOne : Df l.prog w K mg base 2 "_law_one" ["_law_box_here", "_law_some"] (spOne K) f_sOne _ := ⟨ok_one F_sOne (PySem.W.mg_none_of X G z_len) o_sTake, PySem.W.mg_of X G a_sOne, k_sOne, b_sOne⟩
  have sm : SmT mg := ⟨(PySem.W.mg_none_of X G z_isinstance), (PySem.W.mg_none_of X G z_list), (PySem.W.mg_none_of X G z_tuple), (PySem.W.mg_none_of X G z_bool), (PySem.W.mg_none_of X G z_int), (PySem.W.mg_none_of X G z_str), (PySem.W.mg_none_of X G z_len), (PySem.W.mg_none_of X G z_all), (PySem.W.mg_none_of X G z_zip)⟩
  have o_sSame : Df l.prog w K mg base 4 "_law_same" ["_law_found", "_law_due"] (spSame K 3) f_sSame _ := ⟨ok_same F_sSame (PySem.W.mg_of X G a_sSame) b_sSame sm 3, PySem.W.mg_of X G a_sSame, k_sSame, b_sSame⟩
  have o_sUnlike : Df l.prog w K mg base 1 "_law_unlike" ["_law_some"] (spUnl K) f_sUnlike _ := ⟨ok_unl F_sUnlike (PySem.W.mg_none_of X G z_sorted), PySem.W.mg_of X G a_sUnlike, k_sUnlike, b_sUnlike⟩
  have o_sHue : Df l.prog w K mg base 3 "_law_hue" ["_law_box_here"] spHue f_sHue _ := ⟨ok_hue F_sHue o_sOne, PySem.W.mg_of X G a_sHue, k_sHue, b_sHue⟩
  have o_sSign : Df l.prog w K mg base 3 "_law_sign" ["_law_box_here"] spSign f_sSign _ := ⟨ok_sign F_sSign o_sOne, PySem.W.mg_of X G a_sSign, k_sSign, b_sSign⟩
  have o_sArrow : Df l.prog w K mg base 4 "_law_arrow" ["_law_box_here", "_law_many"] spArrow f_sArrow _ := ⟨ok_arrow F_sArrow o_sHue o_sTake, PySem.W.mg_of X G a_sArrow, k_sArrow, b_sArrow⟩
  have o_sWeb : Df l.prog w K mg base 5 "_law_web" ["_law_box_here", "_law_low", "_law_high"] (spWeb K) f_sWeb _ := ⟨ok_web F_sWeb (PySem.W.mg_none_of X G z_range) o_sTake o_sOne o_sSign o_sArrow o_sUnlike, PySem.W.mg_of X G a_sWeb, k_sWeb, b_sWeb⟩
  have oI : FnOk l.prog w K mg base (L2.CX l.prog w) 4 f_sInit _ psI (spInitX K C ⟨C_ba, C_bm, C_bt, C_bs, C_sz, C_pt, C_nu, C_tm⟩) := ok_initX (e := ⟨C_ba, C_bm, C_bt, C_bs, C_sz, C_pt, C_nu, C_tm⟩) FI wt e_sz o_sRA o_sRM o_sGat
  have m_sPoints : Mf l.prog w K mg base 1 C "points" (spPts C) f_sPoints _ := ⟨ok_pts F_sPoints wt (PySem.W.mg_none_of X G z_len), ⟨(of_decide_eq_true (all_get ck 13 rfl)), (all_get ck 14 rfl), k_sPoints⟩, b_sPoints⟩
  have bl : Bl mg := ⟨(PySem.W.mg_none_of X G z_range), (PySem.W.mg_none_of X G z_list), (PySem.W.mg_none_of X G z_len), (PySem.W.mg_none_of X G z_max)⟩
  have o_s_law_bad_tie : Df l.prog w K mg base 3 "_law_bad_tie" ["_law_box_here", "_law_many", "_law_tie"] (spBad K) f_s_law_bad_tie _ := ⟨ok_bt F_s_law_bad_tie bl o_sTake o_sOne, PySem.W.mg_of X G a_s_law_bad_tie, k_s_law_bad_tie, b_s_law_bad_tie⟩
  exact ok_law (e := ⟨C_ba, C_bm, C_bt, C_bs, C_sz, C_pt, C_nu, C_tm⟩) F_sLaw bl cl (PySem.W.mg_of X G aC) mk FI oI ea em TB F_sAt (PySem.W.mg_of X G a_sAt) b_sAt AG at_sz er_sz at_ba er_ba at_bm er_bm o_sBox o_sTake o_sOne o_sWeb o_sSame o_s_law_bad_tie m_sPoints
end Wb
open PySem PySem.W PyProof.Rows
set_option maxRecDepth 100000 in
set_option maxHeartbeats 0 in
theorem PySem.Challenge.cw_wardweb_k02_webs_refused_holds : PySem.Challenge.rw_wardweb_k02_webs_refused.Holds := by
  w_on; o_law; k_head; (case hw => w_witness2)
  k_fill
  refine LamX.walk_ofOwn (l := PySem.Challenge.rw_wardweb_k02_webs_refused) (n := 63) (k := 8) (x := "_law_script") (CX := fun _ => L2.CX0) rfl (by decide) rfl ⟨rfl, by decide, by decide⟩ (by decide +kernel) (fun w h Y => PySem.W.km_in_of Y) ?F (fun _ _ _ _ _ h => h)
  case F =>
    intro w mg fa h YY KX G hmg own
    refine' Wb.all_mk KX G hmg own ?a_sRA ?l_sRA ?c_sRA ?k_sRA ?a_sRM ?l_sRM ?c_sRM ?k_sRM ?a_sGat ?l_sGat ?c_sGat ?k_sGat ?a_sBox ?l_sBox ?c_sBox ?k_sBox ?a_sTake ?l_sTake ?c_sTake ?k_sTake ?a_sOne ?l_sOne ?c_sOne ?k_sOne ?a_sSame ?l_sSame ?c_sSame ?k_sSame ?a_sUnlike ?l_sUnlike ?c_sUnlike ?k_sUnlike ?a_sHue ?l_sHue ?c_sHue ?k_sHue ?a_sSign ?l_sSign ?c_sSign ?k_sSign ?a_sArrow ?l_sArrow ?c_sArrow ?k_sArrow ?a_sWeb ?l_sWeb ?c_sWeb ?k_sWeb ?a_sAt ?l_sAt ?c_sAt ?k_sAt ?a_s_law_bad_tie ?l_s_law_bad_tie ?c_s_law_bad_tie ?k_s_law_bad_tie ?a_sLaw ?l_sLaw ?c_sLaw ?k_sLaw ?lcL ?v11 ?z_len ?z_list ?z_range ?z_isinstance ?z_tuple ?z_bool ?z_int ?z_str ?z_all ?z_zip ?z_enumerate ?z_set ?z_sorted ?z_max ?aC ?jI ?l_sInit ?c_sInit ?k_sInit ?da ?dm ?eta ?etm ?g1 ?g2 ?g3 ?j_sPoints ?l_sPoints ?c_sPoints ?k_sPoints ?a_ba ?a_bm ?a_bt ?a_bs ?a_sz ?a_pt ?a_nu ?a_tm ?j_sz ?l_sEBadSize ?c_sEBadSize ?k_sEBadSize ?j_ba ?l_sEBadArrow ?c_sEBadArrow ?k_sEBadArrow ?j_bm ?l_sEBadMark ?c_sEBadMark ?k_sEBadMark ?ck
    (case a_sRA => k_is)
    (case l_sRA => k_is)
    (case c_sRA => k_is)
    (case k_sRA => k_is)
    (case a_sRM => k_is)
    (case l_sRM => k_is)
    (case c_sRM => k_is)
    (case k_sRM => k_is)
    (case a_sGat => k_is)
    (case l_sGat => k_is)
    (case c_sGat => k_is)
    (case k_sGat => k_is)
    (case a_sBox => k_is)
    (case l_sBox => k_is)
    (case c_sBox => k_is)
    (case k_sBox => k_is)
    (case a_sTake => k_is)
    (case l_sTake => k_is)
    (case c_sTake => k_is)
    (case k_sTake => k_is)
    (case a_sOne => k_is)
    (case l_sOne => k_is)
    (case c_sOne => k_is)
    (case k_sOne => k_is)
    (case a_sSame => k_is)
    (case l_sSame => k_is)
    (case c_sSame => k_is)
    (case k_sSame => k_is)
    (case a_sUnlike => k_is)
    (case l_sUnlike => k_is)
    (case c_sUnlike => k_is)
    (case k_sUnlike => k_is)
    (case a_sHue => k_is)
    (case l_sHue => k_is)
    (case c_sHue => k_is)
    (case k_sHue => k_is)
    (case a_sSign => k_is)
    (case l_sSign => k_is)
    (case c_sSign => k_is)
    (case k_sSign => k_is)
    (case a_sArrow => k_is)
    (case l_sArrow => k_is)
    (case c_sArrow => k_is)
    (case k_sArrow => k_is)
    (case a_sWeb => k_is)
    (case l_sWeb => k_is)
    (case c_sWeb => k_is)
    (case k_sWeb => k_is)
    (case a_sAt => k_is)
    (case l_sAt => k_is)
    (case c_sAt => k_is)
    (case k_sAt => k_is)
    (case a_s_law_bad_tie => k_is)
    (case l_s_law_bad_tie => k_is)
    (case c_s_law_bad_tie => k_is)
    (case k_s_law_bad_tie => k_is)
    (case a_sLaw => k_is)
    (case l_sLaw => k_is)
    (case c_sLaw => k_is)
    (case k_sLaw => k_is)
    (case lcL => k_is)
    (case v11 => rfl)
    (case z_len => k_is)
    (case z_list => k_is)
    (case z_range => k_is)
    (case z_isinstance => k_is)
    (case z_tuple => k_is)
    (case z_bool => k_is)
    (case z_int => k_is)
    (case z_str => k_is)
    (case z_all => k_is)
    (case z_zip => k_is)
    (case z_enumerate => k_is)
    (case z_set => k_is)
    (case z_sorted => k_is)
    (case z_max => k_is)
    (case aC => k_is)
    (case jI => k_is)
    (case l_sInit => k_is)
    (case c_sInit => k_is)
    (case k_sInit => k_is)
    (case da => k_is)
    (case dm => k_is)
    (case eta => k_is)
    (case etm => k_is)
    (case g1 => k_is)
    (case g2 => k_is)
    (case g3 => k_is)
    (case j_sPoints => k_is)
    (case l_sPoints => k_is)
    (case c_sPoints => k_is)
    (case k_sPoints => k_is)
    (case a_ba => k_is)
    (case a_bm => k_is)
    (case a_bt => k_is)
    (case a_bs => k_is)
    (case a_sz => k_is)
    (case a_pt => k_is)
    (case a_nu => k_is)
    (case a_tm => k_is)
    (case j_sz => k_is)
    (case l_sEBadSize => k_is)
    (case c_sEBadSize => k_is)
    (case k_sEBadSize => k_is)
    (case j_ba => k_is)
    (case l_sEBadArrow => k_is)
    (case c_sEBadArrow => k_is)
    (case k_sEBadArrow => k_is)
    (case j_bm => k_is)
    (case l_sEBadMark => k_is)
    (case c_sEBadMark => k_is)
    (case k_sEBadMark => k_is)
    (case ck => kernel_rfl)
