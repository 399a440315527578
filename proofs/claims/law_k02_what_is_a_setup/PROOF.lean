import PyProof.Rows.All
import Wide.All
import OpenK.AllK
import Wide.FinOn
import HandS.ForMost
import HandS.ExcIs
import HandS.ExcCtx
import HandS.ExcValue
import HandS.Words
import HandS.HotCalls
import HandS.WordsExc
import KE.KExcStr
import HandS.Exc
import HandS.ExcOwn
import HandS.TupAny
import HandS.Deep
import HandS.SortRule
import HandS.SortInts
import HandS.Conv
import HandS.NoneIn
import HandS.Steps
import HandS.SetFor
import HandS.FStrTup
import HandS.RaiseMore
import HandS.Flow
import HandS.IsInst
import KE.KDictCopyH
import HandS.DictTup
import HandS.DictComp
import KE.KDictSum
import HandS.Star
import HandS.ClsMeth
import HandS.SortOrd
import HandS.TupMul
import PySem.Challenge.RW_acquit_k02_what_is_a_setup
import PyProof.ReprLen
import KE.KStateDown
import HandS.Head0
import HandS.Head1
import HandS.Head2
import HandS.HeadEnd
import HandS.HeadHook1
import HandS.HeadHook2
section
set_option Elab.async false
set_option maxRecDepth 100000
/-! Dicts with texts and tuples among their keys. -/
namespace Mx
open PySem PySem.Spec PyProof.Rows L2
open Sem (wp)

/-- a tuple: laid by the run, or the program's one constant, known to the object -/
def TupA (H : Hp) (a : Addr) (xs : List V) : Prop := H a = some (.tup xs) ∨ (xs = [.str "switch"] ∧ ∃ ob, H a = some (.frz ob (.tup xs)))
theorem TupA.rd {H : Hp} {a : Addr} {xs : List V} (h : TupA H a xs) : Rd H a (.tup xs) := h.elim .inl fun h => .inr h.2
theorem TupA.sq {K : PySem.W.Frag} {H : Hp} {a : Addr} {xs : List V} (h : TupA H a xs) : SqT K H a xs := .inl h.rd
theorem TupA.plain {H : Hp} {a : Addr} {xs : List V} (h : TupA H a xs) (n : xs.length ≠ 1) : H a = some (.tup xs) := by
  rcases h with h | ⟨e, _⟩
  · exact h
  · subst e
    exact (n rfl).elim
theorem TupA.some {H : Hp} {a : Addr} {xs : List V} (h : TupA H a xs) : ∃ o, H a = some o := by
  rcases h with h | ⟨_, ob, h⟩
  · exact ⟨_, h⟩
  · exact ⟨_, h⟩
theorem TupA.upd {H : Hp} {a p : Addr} {o : HO} {xs : List V} (h : TupA H a xs) (n : a ≠ p) : TupA (L2.upd H p o) a xs := by
  have e : L2.upd H p o a = H a := upd_ne n
  unfold TupA at h ⊢
  rw [e]
  exact h
theorem key_ofR {P : Program} {w : World} {H : Hp} {h : Heap} {a : Addr} {ks : List Key} (ok : HOk P w H h) (e : TupA H a (ks.map kV)) : (tupleKind (mixKind P w)).is h ks a := by
  obtain ⟨_, its, r, o, h1, h2, n, h3⟩ := (show ObjOk P w H h a (.tup (ks.map kV)) from e.rd.ok ok)
  exact ⟨o, its.toArray, n, h1, h2, h3, by simpa using items_are r⟩
/-- a key: a text, or a tuple of numbers and texts -/
abbrev GK := Sum Str (List Key)
section
variable (P : Program) (w : World)
def gis (h : Heap) : GK → Value → Prop
  | .inl x, v => Value.isStrOf x v = true
  | .inr ks, v => ∃ a, v = .ref a ∧ IsTupleKey (mixKind P w) h ks a
def ghash : GK → Int
  | .inl x => hashStr w x
  | .inr ks => tupleKeyHash (mixKind P w) ks
def gdraws : GK → Nat
  | .inl _ => 1
  | .inr ks => ks.length + 1
def gent (x : GK × Value × Value) : DictEntry := ⟨ghash P w x.1, x.2.1, x.2.2⟩
end
section
variable {P : Program} {w : World} {A : Around} {E : Value → Shared → Prop} {s : Shared}
theorem gis_inj {h : Heap} {v : Value} {x y : GK} (a : gis P w h x v) (b : gis P w h y v) : x = y := by
  cases x with
  | inl x =>
    obtain ⟨t, e⟩ := Value.isStrOf_shape (x := x) (v := v) a
    subst e
    cases y with
    | inl y =>
      obtain ⟨u, e2⟩ := Value.isStrOf_shape (x := y) (v := _) b
      injection e2 with e3 _
      rw [e3]
    | inr y =>
      obtain ⟨c, e2, _⟩ := b
      cases e2
  | inr x =>
    obtain ⟨c, e, hc⟩ := a
    subst e
    cases y with
    | inl y =>
      obtain ⟨u, e2⟩ := Value.isStrOf_shape (x := y) (v := _) b
      cases e2
    | inr y =>
      obtain ⟨c2, e2, hc2⟩ := b
      cases e2
      rw [hc.inj hc2]
theorem gis_keeps {h h' : Heap} {k : GK} {v : Value} {d : Addr} {o : Obj} {es ep} (x : gis P w h k v) (ho : h.get? d = some o) (hd : o.data = .dict es ep) (hs : Heap.SameBut d h h') : gis P w h' k v := by
  cases k with
  | inl k => exact x
  | inr k =>
    obtain ⟨a, e, ha⟩ := x
    exact ⟨a, e, ha.keeps ho hd hs⟩
theorem gis_hash {k : GK} {v : Value} {Q : Int → Shared → Prop} (hu : A.units < cLine) (x : gis P w s.heap k v) (q : Q (ghash P w k) { s with toks := s.toks + gdraws k }) : wpAny (model P w) A (pyHash v) Q E s := by
  cases k with
  | inl k =>
    obtain ⟨t, e⟩ := Value.isStrOf_shape (x := k) (v := v) x
    subst e
    exact wpAny_pyHash_str q
  | inr k =>
    obtain ⟨a, e, ha⟩ := x
    subst e
    exact wpAny_pyHash_tuple hu ha q
theorem tup_is {h : Heap} {ks : List Key} {a : Addr} (x : IsTupleKey (mixKind P w) h ks a) : ∃ items, h.IsTuple a items := by
  obtain ⟨o, items, n, ho, hc, hd, _⟩ := x
  exact ⟨items, o, ho, hc, n, hd⟩
theorem gis_eq {x y : GK} {u v : Value} {Q : Bool → Shared → Prop} (hu : A.units < cLine) (hx : gis P w s.heap x u) (hy : gis P w s.heap y v) (q : Q (decide (x = y)) s) : wpAny (model P w) A (eqBool u v) Q E s := by
  cases x with
  | inl x =>
    obtain ⟨t, e⟩ := Value.isStrOf_shape (x := x) (v := u) hx
    subst e
    cases y with
    | inl y =>
      obtain ⟨t2, e⟩ := Value.isStrOf_shape (x := y) (v := v) hy
      subst e
      refine wpAny_eqBool_str ?_
      have e2 : decide (x = y) = decide ((Sum.inl x : GK) = Sum.inl y) := by simp
      rw [e2]
      exact q
    | inr y =>
      obtain ⟨a, e, ha⟩ := hy
      subst e
      obtain ⟨items, hi⟩ := tup_is ha
      have e2 : decide ((Sum.inl x : GK) = Sum.inr y) = false := by simp
      rw [e2] at q
      exact SeqAt.EqAt.str_tuple x t hi hu P w E Q q
  | inr x =>
    obtain ⟨a, e, ha⟩ := hx
    subst e
    cases y with
    | inl y =>
      obtain ⟨t2, e⟩ := Value.isStrOf_shape (x := y) (v := v) hy
      subst e
      obtain ⟨items, hi⟩ := tup_is ha
      have e2 : decide ((Sum.inr x : GK) = Sum.inl y) = false := by simp
      rw [e2] at q
      exact SeqAt.EqAt.tuple_str y t2 hi hu P w E Q q
    | inr y =>
      obtain ⟨b, e, hb⟩ := hy
      subst e
      refine wpAny_eqBool_tuple hu ha hb ?_
      have e2 : decide (x = y) = decide ((Sum.inr x : GK) = Sum.inr y) := by simp
      rw [e2]
      exact q
theorem gis_quiet {k : GK} {v : Value} {Q : Bool → Shared → Prop} (x : gis P w s.heap k v) (q : Q true s) : wpAny (model P w) A (eqIsQuiet 8 v) Q E s := by
  cases k with
  | inl k =>
    obtain ⟨t, e⟩ := Value.isStrOf_shape (x := k) (v := v) x
    subst e
    rw [eqIsQuiet_byValue 8 rfl]
    exact wpAny_pure q
  | inr k =>
    obtain ⟨a, e, ha⟩ := x
    subst e
    exact wpAny_eqIsQuiet_tuple ha q
theorem gmay {key : Value} {k : GK} {stored : List Value} {Q : Bool → Shared → Prop} (hk : gis P w s.heap k key) (hst : ∀ v ∈ stored, ∃ k', gis P w s.heap k' v) (q : Q false s) :
    wpAny (model P w) A (tableMayTell key stored) Q E s := by
  unfold tableMayTell
  split
  · exact wpAny_pure q
  · apply wpAny_bind
    apply gis_quiet hk
    simp only [Bool.not_true, Bool.false_eq_true, if_false]
    apply wpAny_bind
    refine wpAny_forIn_list _ (fun rest r s' => s' = s ∧ r = (none, ()) ∧ ∀ v ∈ rest, ∃ k', gis P w s.heap k' v) _ ?_ ?_ _ _ ⟨rfl, rfl, hst⟩
    · rintro x rest r s' ⟨rfl, rfl, hr⟩
      obtain ⟨k', hb⟩ := hr x List.mem_cons_self
      apply wpAny_bind
      apply gis_quiet hb
      simp only [Bool.not_true, Bool.false_eq_true, if_false]
      apply wpAny_pure
      exact ⟨rfl, rfl, fun v hv => hr v (List.mem_cons_of_mem _ hv)⟩
    · rintro r s' ⟨rfl, rfl, _⟩
      exact wpAny_pure q
end

/-! ### looking up -/
def gat (xs : List (GK × Value × Value)) (k : GK) : Option (Value × Value) := (xs.find? fun x => decide (x.1 = k)).map (·.2)
theorem gidx {xs : List (GK × Value × Value)} (hn : (xs.map (·.1)).Nodup) {i j : Nat} {k : GK} {p q : Value × Value} (hi : xs[i]? = some (k, p)) (hj : xs[j]? = some (k, q)) : i = j := by
  have hi' : (xs.map (·.1))[i]? = some k := by rw [List.getElem?_map, hi]; rfl
  have hj' : (xs.map (·.1))[j]? = some k := by rw [List.getElem?_map, hj]; rfl
  exact (List.getElem?_inj (List.getElem?_eq_some_iff.mp hi').1 hn).mp (hi'.trans hj'.symm)
theorem gat_of {xs : List (GK × Value × Value)} (hn : (xs.map (·.1)).Nodup) : ∀ {i : Nat} {k : GK} {p : Value × Value}, xs[i]? = some (k, p) → gat xs k = some p := by
  induction xs with
  | nil => intro i k p h; simp at h
  | cons x rest ih =>
    intro i k p h
    rw [List.map_cons, List.nodup_cons] at hn
    cases i with
    | zero =>
      simp only [List.getElem?_cons_zero, Option.some.injEq] at h
      subst h
      simp [gat]
    | succ j =>
      simp only [List.getElem?_cons_succ] at h
      have hm : k ∈ rest.map (·.1) := List.mem_map.mpr ⟨(k, p), List.mem_of_getElem? h, rfl⟩
      have hne : ¬ x.1 = k := fun e => hn.1 (by rw [e]; exact hm)
      have q := ih hn.2 h
      unfold gat at q ⊢
      rw [List.find?_cons, decide_eq_false hne]
      exact q
theorem gat_none {xs : List (GK × Value × Value)} {k : GK} (h : ∀ (j : Nat) (p : Value × Value), xs[j]? ≠ some (k, p)) : gat xs k = none := by
  unfold gat
  rw [List.find?_eq_none.mpr]
  · rfl
  · intro x hx e
    obtain ⟨j, hj⟩ := List.mem_iff_getElem?.mp hx
    have e' : x.1 = k := of_decide_eq_true e
    exact h j x.2 (by rw [hj, ← e'])
end Mx
end
section
set_option Elab.async false
set_option maxRecDepth 100000
set_option maxHeartbeats 1000000
namespace Mx
open PySem PySem.Spec PyProof.Rows L2
open Sem (wp)
section
variable {P : Program} {w : World} {A : Around} {E : Value → Shared → Prop} {s : Shared}
theorem gent_at {es : Array DictEntry} {xs : List (GK × Value × Value)} (he : es.toList = xs.map (gent P w)) (j : Nat) : es[j]? = (xs[j]?).map (gent P w) := by
  rw [← Array.getElem?_toList, he, List.getElem?_map]
theorem gent_size {es : Array DictEntry} {xs : List (GK × Value × Value)} (he : es.toList = xs.map (gent P w)) : es.size = xs.length := by
  rw [← Array.length_toList, he, List.length_map]
/-- what is known ahead of the i-th place -/
def Ahead (xs : List (GK × Value × Value)) (k : GK) (i : Nat) (hit : Option Nat) : Prop :=
  (hit = none ∧ ∀ j p, j < i → xs[j]? ≠ some (k, p)) ∨ ∃ j p, hit = some j ∧ j < i ∧ xs[j]? = some (k, p)
theorem Ahead.go {xs : List (GK × Value × Value)} {k : GK} {i x : Nat} {hit : Option Nat} (h : Ahead xs k i hit) (no : ∀ j, i ≤ j → j < x → ∀ p, xs[j]? ≠ some (k, p)) (hx : i ≤ x) : Ahead xs k x hit := by
  rcases h with ⟨h0, hno⟩ | ⟨j, p, h1, hj, h2⟩
  · refine .inl ⟨h0, fun j p hj => ?_⟩
    by_cases hji : j < i
    · exact hno j p hji
    · exact no j (by omega) hj p
  · exact .inr ⟨j, p, h1, by omega, h2⟩

theorem gfind {d : Addr} {key : Value} {o : Obj} {es : Array DictEntry} {ep : Nat} {xs : List (GK × Value × Value)} {k : GK} {Q : Option Nat → Shared → Prop} (hu : A.units < cLine) (hkey : gis P w s.heap k key)
    (ho : s.heap.get? d = some o) (hd : o.data = .dict es ep) (he : es.toList = xs.map (gent P w)) (his : ∀ x ∈ xs, gis P w s.heap x.1 x.2.1) (hn : (xs.map (·.1)).Nodup)
    (hmx : (∃ ks, k = .inr ks) ∨ ∃ x ∈ xs, ∃ ks, x.1 = .inr ks)
    (hnone : (∀ (j : Nat) (p : Value × Value), xs[j]? ≠ some (k, p)) → Q none s) (hsome : ∀ (j : Nat) (p : Value × Value), xs[j]? = some (k, p) → Q (some j) s) :
    wpAny (model P w) A (dictFind d key (ghash P w k)) Q E s := by
  have hsz : es.size = xs.length := gent_size he
  have hmem : ∀ e ∈ es, ∃ x ∈ xs, e = gent P w x := by
    intro e hin
    have q : e ∈ xs.map (gent P w) := by
      rw [← he]
      exact Array.mem_toList_iff.mpr hin
    obtain ⟨x, hx, rfl⟩ := List.mem_map.mp q
    exact ⟨x, hx, rfl⟩
  have key_at : ∀ (j : Nat) (p : Value × Value), xs[j]? = some (k, p) → ((es[j]?.map (·.hash)) == some (ghash P w k)) = true := by
    intro j p hj
    rw [gent_at he j, hj]
    simp [gent]
  have skip_no : ∀ j : Nat, ((es[j]?.map (·.hash)) == some (ghash P w k)) = false → ∀ p, xs[j]? ≠ some (k, p) := by
    intro j hj p hp
    rw [key_at j p hp] at hj
    cases hj
  have no_str : ∀ x t, key = .str x t → (es.all fun e => isExactStrKey e.key) = false := by
    intro x t e
    rcases hmx with ⟨ks, rfl⟩ | ⟨y, hy, ks, hk⟩
    · obtain ⟨a, e2, _⟩ := hkey
      rw [e] at e2
      cases e2
    · have hi := his y hy
      rw [hk] at hi
      obtain ⟨a, e2, _⟩ := hi
      rw [Bool.eq_false_iff]
      intro hall
      rw [← Array.all_toList, List.all_eq_true] at hall
      have q := hall (gent P w y) (by rw [he]; exact List.mem_map.mpr ⟨y, hy, rfl⟩)
      have q2 : isExactStrKey y.2.1 = true := q
      rw [e2] at q2
      cases q2
  have any_no : ¬ (es.any fun e => e.key == key && e.hash != ghash P w k) = true := by
    rw [← Array.any_toList, List.any_eq_true]
    rintro ⟨e, hin, hc⟩
    obtain ⟨x, hx, rfl⟩ := hmem e (Array.mem_toList_iff.mp hin)
    rw [Bool.and_eq_true] at hc
    have e1 : x.2.1 = key := eq_of_beq hc.1
    have g := his x hx
    rw [e1] at g
    have e2 : x.1 = k := gis_inj g hkey
    have e3 : (ghash P w x.1 != ghash P w k) = true := hc.2
    rw [e2] at e3
    simp at e3
  have stored_is : ∀ v ∈ (placesWithHash es.size (fun i => es[i]?.map (·.hash)) (ghash P w k)).filterMap (fun i => es[i]?.map (·.key)), ∃ k', gis P w s.heap k' v := by
    intro v hv
    obtain ⟨i, _, hi⟩ := List.mem_filterMap.mp hv
    cases hei : es[i]? with
    | none =>
      rw [hei] at hi
      cases hi
    | some e =>
      rw [hei] at hi
      have ev : e.key = v := by simpa using hi
      obtain ⟨x, hx, rfl⟩ := hmem e (Array.mem_of_getElem? hei)
      refine ⟨x.1, ?_⟩
      rw [← ev]
      exact his x hx
  have places0 : placesWithHash es.size (fun i => es[i]?.map (·.hash)) (ghash P w k) = (List.range' 0 (es.size - 0)).filter (fun i => (es[i]?.map (·.hash)) == some (ghash P w k)) := by
    rw [placesWithHash, List.range_eq_range', Nat.sub_zero]
  have last : ∀ (i : Nat) (hit : Option Nat), Ahead xs k i hit → i ≤ es.size → [] = (List.range' i (es.size - i)).filter (fun i => (es[i]?.map (·.hash)) == some (ghash P w k)) → Q hit s := by
    intro i hit hA hi hr
    have hall : ∀ j, i ≤ j → j < es.size → ∀ p, xs[j]? ≠ some (k, p) := by
      intro j h1 h2
      have q := List.filter_eq_nil_iff.mp hr.symm j (List.mem_range'_1.mpr ⟨h1, by omega⟩)
      exact skip_no j (by simpa using q)
    rcases hA with ⟨rfl, hno⟩ | ⟨j, p, rfl, _, hj⟩
    · apply hnone
      intro j p hj
      by_cases hji : j < i
      · exact hno j p hji hj
      · have hlt : j < xs.length := (List.getElem?_eq_some_iff.mp hj).1
        exact hall j (by omega) (by omega) p hj
    · exact hsome j p hj
  have plain : wpAny (model P w) A (dictWalkPlain d key (ghash P w k) es (placesWithHash es.size (fun i => es[i]?.map (·.hash)) (ghash P w k))) Q E s := by
    apply wpAny_bind
    refine wpAny_forIn_list _ (fun rest b s' => s' = s ∧ ∃ (i : Nat) (hit : Option Nat), b = (none, ()) ∧ rest = (List.range' i (es.size - i)).filter (fun i => (es[i]?.map (·.hash)) == some (ghash P w k)) ∧ i ≤ es.size ∧ (Ahead xs k i hit ∧ hit = none)) _ ?_ ?_ _ _ ⟨rfl, 0, none, rfl, places0, Nat.zero_le _, .inl ⟨rfl, fun _ _ h => absurd h (Nat.not_lt_zero _)⟩, rfl⟩
    · rintro x rest b s' ⟨rfl, i, hit, rfl, hr, hi, hA, rfl⟩
      obtain ⟨hix, hxn, hpx, hskip, hrest⟩ := filter_range'_cons _ _ _ _ _ hr.symm
      have hlt : x < es.size := by omega
      have hrest' : rest = (List.range' (x + 1) (es.size - (x + 1))).filter (fun i => (es[i]?.map (·.hash)) == some (ghash P w k)) := by
        rw [hrest]
        congr 2
        omega
      obtain ⟨⟨k', kv, vv⟩, hkv⟩ : ∃ y, xs[x]? = some y := ⟨xs[x]'(by rw [← hsz]; exact hlt), List.getElem?_eq_getElem _⟩
      have hib : gis P w s'.heap k' kv := his _ (List.mem_of_getElem? hkv)
      have hex : es[x]? = some ⟨ghash P w k', kv, vv⟩ := by
        rw [gent_at he x, hkv]
        rfl
      have hAx : Ahead xs k x none := hA.go (fun j h1 h2 => skip_no j (hskip j h1 h2)) hix
      have hstay : ¬ k' = k → Ahead xs k (x + 1) none := fun hne => hAx.go (fun j h1 h2 p hp => by
        have ej : j = x := by omega
        rw [ej, hkv] at hp
        injection hp with hp
        injection hp with hp
        exact hne hp) (Nat.le_succ x)
      rw [hex]
      dsimp only
      by_cases hh : (ghash P w k' == ghash P w k) = true
      · rw [if_pos hh]
        apply wpAny_bind
        apply wpAny_dictEpoch ho hd
        apply wpAny_bind
        apply gis_eq hu hib hkey
        apply wpAny_bind
        apply wpAny_dictEpoch ho hd
        show wpAny _ _ (if (ep != ep) = true then _ else _) _ E _
        rw [if_neg (by simp)]
        by_cases hkk : k' = k
        · rw [decide_eq_true hkk]
          subst hkk
          exact wpAny_bind (wpAny_rule (wpAny_pure (wpAny_pure (hsome x _ hkv))))
        · rw [decide_eq_false hkk]
          exact wpAny_bind (wpAny_rule (wpAny_pure ⟨rfl, x + 1, none, rfl, hrest', hlt, hstay hkk, rfl⟩))
      · rw [if_neg hh]
        refine wpAny_pure ⟨rfl, x + 1, none, rfl, hrest', hlt, hstay ?_, rfl⟩
        intro hkk
        rw [hkk] at hh
        simp at hh
    · rintro b s' ⟨rfl, i, hit, rfl, hr, hi, hA, rfl⟩
      exact wpAny_pure (last i none hA hi hr)
  cases k with
  | inl x0 =>
    obtain ⟨t, e0⟩ := Value.isStrOf_shape (x := x0) (v := key) hkey
    subst e0
    unfold dictFind
    try with_reducible refine wpAny_holding ?_
    apply wpAny_bind
    apply wpAny_dictEntries ho hd
    dsimp only
    rw [if_neg (by rw [no_str x0 t rfl]; decide)]
    by_cases hall : ((Value.str x0 t :: (placesWithHash es.size (fun i => es[i]?.map (·.hash)) (ghash P w (Sum.inl x0))).filterMap fun i => es[i]?.map (·.key)).all carriedByValue) = true
    · rw [if_pos hall]
      exact plain
    · rw [if_neg hall]
      clear plain
      by_cases hone : ((placesWithHash es.size (fun i => es[i]?.map (·.hash)) (ghash P w (Sum.inl x0))).filterMap (fun i => es[i]?.map (·.key)) == [Value.str x0 t]) = true
      · rw [if_pos hone]
        apply wpAny_bind
        apply wpAny_pure
        rw [if_neg (by simp)]
        apply wpAny_bind
        refine wpAny_forIn_list _ (fun rest b s' => s' = s ∧ ∃ (i : Nat) (hit : Option Nat), b = (none, hit) ∧ rest = (List.range' i (es.size - i)).filter (fun i => (es[i]?.map (·.hash)) == some (ghash P w (Sum.inl x0))) ∧ i ≤ es.size ∧ Ahead xs (Sum.inl x0) i hit) _ ?_ ?_ _ _ ⟨rfl, 0, none, rfl, places0, Nat.zero_le _, .inl ⟨rfl, fun _ _ h => absurd h (Nat.not_lt_zero _)⟩⟩
        · rintro x rest b s' ⟨rfl, i, hit, rfl, hr, hi, hA⟩
          obtain ⟨hix, hxn, hpx, hskip, hrest⟩ := filter_range'_cons _ _ _ _ _ hr.symm
          have hlt : x < es.size := by omega
          have hrest' : rest = (List.range' (x + 1) (es.size - (x + 1))).filter (fun i => (es[i]?.map (·.hash)) == some (ghash P w (Sum.inl x0))) := by
            rw [hrest]
            congr 2
            omega
          obtain ⟨⟨k', kv, vv⟩, hkv⟩ : ∃ y, xs[x]? = some y := ⟨xs[x]'(by rw [← hsz]; exact hlt), List.getElem?_eq_getElem _⟩
          have hib : gis P w s'.heap k' kv := his _ (List.mem_of_getElem? hkv)
          have hex : es[x]? = some ⟨ghash P w k', kv, vv⟩ := by
            rw [gent_at he x, hkv]
            rfl
          have hAx : Ahead xs (Sum.inl x0) x hit := hA.go (fun j h1 h2 => skip_no j (hskip j h1 h2)) hix
          have hstay : ¬ k' = (Sum.inl x0) → Ahead xs (Sum.inl x0) (x + 1) hit := fun hne => hAx.go (fun j h1 h2 p hp => by
            have ej : j = x := by omega
            rw [ej, hkv] at hp
            injection hp with hp
            injection hp with hp
            exact hne hp) (Nat.le_succ x)
          rw [hex]
          dsimp only
          by_cases hh : (ghash P w k' == ghash P w (Sum.inl x0)) = true
          · rw [if_pos hh]
            apply wpAny_bind
            apply wpAny_dictEpoch ho hd
            apply wpAny_bind
            apply gis_eq hu hib hkey
            apply wpAny_bind
            apply wpAny_dictEpoch ho hd
            show wpAny _ _ (if (ep != ep) = true then _ else _) _ E _
            rw [if_neg (by simp)]
            by_cases hkk : k' = (Sum.inl x0)
            · rw [decide_eq_true hkk]
              subst hkk
              rcases hAx with ⟨rfl, _⟩ | ⟨j, p, _, hjx, hj⟩
              · rw [if_pos rfl]
                simp only [Option.isSome_none, Bool.false_eq_true, if_false]
                apply wpAny_bind
                apply wpAny_rule
                split
                · exact wpAny_pure (wpAny_pure (hsome x _ hkv))
                · exact wpAny_pure ⟨rfl, x + 1, some x, rfl, hrest', hlt, .inr ⟨x, _, rfl, Nat.lt_succ_self x, hkv⟩⟩
              · have := gidx hn hj hkv
                omega
            · rw [decide_eq_false hkk]
              simp only [Bool.false_eq_true, if_false]
              apply wpAny_bind
              apply wpAny_rule
              rw [if_neg (by simp)]
              exact wpAny_pure ⟨rfl, x + 1, hit, rfl, hrest', hlt, hstay hkk⟩
          · rw [if_neg hh]
            refine wpAny_pure ⟨rfl, x + 1, hit, rfl, hrest', hlt, hstay ?_⟩
            intro hkk
            rw [hkk] at hh
            simp at hh
        · rintro b s' ⟨rfl, i, hit, rfl, hr, hi, hA⟩
          exact wpAny_pure (last i hit hA hi hr)
      · rw [if_neg hone]
        apply wpAny_bind
        apply gmay hkey stored_is
        rw [if_neg (by simp)]
        apply wpAny_bind
        refine wpAny_forIn_list _ (fun rest b s' => s' = s ∧ ∃ (i : Nat) (hit : Option Nat), b = (none, hit) ∧ rest = (List.range' i (es.size - i)).filter (fun i => (es[i]?.map (·.hash)) == some (ghash P w (Sum.inl x0))) ∧ i ≤ es.size ∧ Ahead xs (Sum.inl x0) i hit) _ ?_ ?_ _ _ ⟨rfl, 0, none, rfl, places0, Nat.zero_le _, .inl ⟨rfl, fun _ _ h => absurd h (Nat.not_lt_zero _)⟩⟩
        · rintro x rest b s' ⟨rfl, i, hit, rfl, hr, hi, hA⟩
          obtain ⟨hix, hxn, hpx, hskip, hrest⟩ := filter_range'_cons _ _ _ _ _ hr.symm
          have hlt : x < es.size := by omega
          have hrest' : rest = (List.range' (x + 1) (es.size - (x + 1))).filter (fun i => (es[i]?.map (·.hash)) == some (ghash P w (Sum.inl x0))) := by
            rw [hrest]
            congr 2
            omega
          obtain ⟨⟨k', kv, vv⟩, hkv⟩ : ∃ y, xs[x]? = some y := ⟨xs[x]'(by rw [← hsz]; exact hlt), List.getElem?_eq_getElem _⟩
          have hib : gis P w s'.heap k' kv := his _ (List.mem_of_getElem? hkv)
          have hex : es[x]? = some ⟨ghash P w k', kv, vv⟩ := by
            rw [gent_at he x, hkv]
            rfl
          have hAx : Ahead xs (Sum.inl x0) x hit := hA.go (fun j h1 h2 => skip_no j (hskip j h1 h2)) hix
          have hstay : ¬ k' = (Sum.inl x0) → Ahead xs (Sum.inl x0) (x + 1) hit := fun hne => hAx.go (fun j h1 h2 p hp => by
            have ej : j = x := by omega
            rw [ej, hkv] at hp
            injection hp with hp
            injection hp with hp
            exact hne hp) (Nat.le_succ x)
          rw [hex]
          dsimp only
          by_cases hh : (ghash P w k' == ghash P w (Sum.inl x0)) = true
          · rw [if_pos hh]
            apply wpAny_bind
            apply wpAny_dictEpoch ho hd
            apply wpAny_bind
            apply gis_eq hu hib hkey
            apply wpAny_bind
            apply wpAny_dictEpoch ho hd
            show wpAny _ _ (if (ep != ep) = true then _ else _) _ E _
            rw [if_neg (by simp)]
            by_cases hkk : k' = (Sum.inl x0)
            · rw [decide_eq_true hkk]
              subst hkk
              rcases hAx with ⟨rfl, _⟩ | ⟨j, p, _, hjx, hj⟩
              · rw [if_pos rfl]
                simp only [Option.isSome_none, Bool.false_eq_true, if_false]
                apply wpAny_bind
                apply wpAny_rule
                split
                · exact wpAny_pure (wpAny_pure (hsome x _ hkv))
                · exact wpAny_pure ⟨rfl, x + 1, some x, rfl, hrest', hlt, .inr ⟨x, _, rfl, Nat.lt_succ_self x, hkv⟩⟩
              · have := gidx hn hj hkv
                omega
            · rw [decide_eq_false hkk]
              simp only [Bool.false_eq_true, if_false]
              apply wpAny_bind
              apply wpAny_rule
              rw [if_neg (by simp)]
              exact wpAny_pure ⟨rfl, x + 1, hit, rfl, hrest', hlt, hstay hkk⟩
          · rw [if_neg hh]
            refine wpAny_pure ⟨rfl, x + 1, hit, rfl, hrest', hlt, hstay ?_⟩
            intro hkk
            rw [hkk] at hh
            simp at hh
        · rintro b s' ⟨rfl, i, hit, rfl, hr, hi, hA⟩
          exact wpAny_pure (last i hit hA hi hr)
  | inr ks =>
    obtain ⟨a, e0, _⟩ := id hkey
    subst e0
    unfold dictFind
    try with_reducible refine wpAny_holding ?_
    apply wpAny_bind
    apply wpAny_dictEntries ho hd
    dsimp only
    rw [if_neg (by simp [carriedByValue])]
    rw [if_neg any_no]
    clear plain
    by_cases hone : ((placesWithHash es.size (fun i => es[i]?.map (·.hash)) (ghash P w (Sum.inr ks))).filterMap (fun i => es[i]?.map (·.key)) == [Value.ref a]) = true
    · rw [if_pos hone]
      apply wpAny_bind
      apply wpAny_pure
      rw [if_neg (by simp)]
      apply wpAny_bind
      refine wpAny_forIn_list _ (fun rest b s' => s' = s ∧ ∃ (i : Nat) (hit : Option Nat), b = (none, hit) ∧ rest = (List.range' i (es.size - i)).filter (fun i => (es[i]?.map (·.hash)) == some (ghash P w (Sum.inr ks))) ∧ i ≤ es.size ∧ Ahead xs (Sum.inr ks) i hit) _ ?_ ?_ _ _ ⟨rfl, 0, none, rfl, places0, Nat.zero_le _, .inl ⟨rfl, fun _ _ h => absurd h (Nat.not_lt_zero _)⟩⟩
      · rintro x rest b s' ⟨rfl, i, hit, rfl, hr, hi, hA⟩
        obtain ⟨hix, hxn, hpx, hskip, hrest⟩ := filter_range'_cons _ _ _ _ _ hr.symm
        have hlt : x < es.size := by omega
        have hrest' : rest = (List.range' (x + 1) (es.size - (x + 1))).filter (fun i => (es[i]?.map (·.hash)) == some (ghash P w (Sum.inr ks))) := by
          rw [hrest]
          congr 2
          omega
        obtain ⟨⟨k', kv, vv⟩, hkv⟩ : ∃ y, xs[x]? = some y := ⟨xs[x]'(by rw [← hsz]; exact hlt), List.getElem?_eq_getElem _⟩
        have hib : gis P w s'.heap k' kv := his _ (List.mem_of_getElem? hkv)
        have hex : es[x]? = some ⟨ghash P w k', kv, vv⟩ := by
          rw [gent_at he x, hkv]
          rfl
        have hAx : Ahead xs (Sum.inr ks) x hit := hA.go (fun j h1 h2 => skip_no j (hskip j h1 h2)) hix
        have hstay : ¬ k' = (Sum.inr ks) → Ahead xs (Sum.inr ks) (x + 1) hit := fun hne => hAx.go (fun j h1 h2 p hp => by
          have ej : j = x := by omega
          rw [ej, hkv] at hp
          injection hp with hp
          injection hp with hp
          exact hne hp) (Nat.le_succ x)
        rw [hex]
        dsimp only
        by_cases hh : (ghash P w k' == ghash P w (Sum.inr ks)) = true
        · rw [if_pos hh]
          apply wpAny_bind
          apply wpAny_dictEpoch ho hd
          apply wpAny_bind
          apply gis_eq hu hib hkey
          apply wpAny_bind
          apply wpAny_dictEpoch ho hd
          show wpAny _ _ (if (ep != ep) = true then _ else _) _ E _
          rw [if_neg (by simp)]
          by_cases hkk : k' = (Sum.inr ks)
          · rw [decide_eq_true hkk]
            subst hkk
            rcases hAx with ⟨rfl, _⟩ | ⟨j, p, _, hjx, hj⟩
            · rw [if_pos rfl]
              simp only [Option.isSome_none, Bool.false_eq_true, if_false]
              apply wpAny_bind
              apply wpAny_rule
              split
              · exact wpAny_pure (wpAny_pure (hsome x _ hkv))
              · exact wpAny_pure ⟨rfl, x + 1, some x, rfl, hrest', hlt, .inr ⟨x, _, rfl, Nat.lt_succ_self x, hkv⟩⟩
            · have := gidx hn hj hkv
              omega
          · rw [decide_eq_false hkk]
            simp only [Bool.false_eq_true, if_false]
            apply wpAny_bind
            apply wpAny_rule
            rw [if_neg (by simp)]
            exact wpAny_pure ⟨rfl, x + 1, hit, rfl, hrest', hlt, hstay hkk⟩
        · rw [if_neg hh]
          refine wpAny_pure ⟨rfl, x + 1, hit, rfl, hrest', hlt, hstay ?_⟩
          intro hkk
          rw [hkk] at hh
          simp at hh
      · rintro b s' ⟨rfl, i, hit, rfl, hr, hi, hA⟩
        exact wpAny_pure (last i hit hA hi hr)
    · rw [if_neg hone]
      apply wpAny_bind
      apply gmay hkey stored_is
      rw [if_neg (by simp)]
      apply wpAny_bind
      refine wpAny_forIn_list _ (fun rest b s' => s' = s ∧ ∃ (i : Nat) (hit : Option Nat), b = (none, hit) ∧ rest = (List.range' i (es.size - i)).filter (fun i => (es[i]?.map (·.hash)) == some (ghash P w (Sum.inr ks))) ∧ i ≤ es.size ∧ Ahead xs (Sum.inr ks) i hit) _ ?_ ?_ _ _ ⟨rfl, 0, none, rfl, places0, Nat.zero_le _, .inl ⟨rfl, fun _ _ h => absurd h (Nat.not_lt_zero _)⟩⟩
      · rintro x rest b s' ⟨rfl, i, hit, rfl, hr, hi, hA⟩
        obtain ⟨hix, hxn, hpx, hskip, hrest⟩ := filter_range'_cons _ _ _ _ _ hr.symm
        have hlt : x < es.size := by omega
        have hrest' : rest = (List.range' (x + 1) (es.size - (x + 1))).filter (fun i => (es[i]?.map (·.hash)) == some (ghash P w (Sum.inr ks))) := by
          rw [hrest]
          congr 2
          omega
        obtain ⟨⟨k', kv, vv⟩, hkv⟩ : ∃ y, xs[x]? = some y := ⟨xs[x]'(by rw [← hsz]; exact hlt), List.getElem?_eq_getElem _⟩
        have hib : gis P w s'.heap k' kv := his _ (List.mem_of_getElem? hkv)
        have hex : es[x]? = some ⟨ghash P w k', kv, vv⟩ := by
          rw [gent_at he x, hkv]
          rfl
        have hAx : Ahead xs (Sum.inr ks) x hit := hA.go (fun j h1 h2 => skip_no j (hskip j h1 h2)) hix
        have hstay : ¬ k' = (Sum.inr ks) → Ahead xs (Sum.inr ks) (x + 1) hit := fun hne => hAx.go (fun j h1 h2 p hp => by
          have ej : j = x := by omega
          rw [ej, hkv] at hp
          injection hp with hp
          injection hp with hp
          exact hne hp) (Nat.le_succ x)
        rw [hex]
        dsimp only
        by_cases hh : (ghash P w k' == ghash P w (Sum.inr ks)) = true
        · rw [if_pos hh]
          apply wpAny_bind
          apply wpAny_dictEpoch ho hd
          apply wpAny_bind
          apply gis_eq hu hib hkey
          apply wpAny_bind
          apply wpAny_dictEpoch ho hd
          show wpAny _ _ (if (ep != ep) = true then _ else _) _ E _
          rw [if_neg (by simp)]
          by_cases hkk : k' = (Sum.inr ks)
          · rw [decide_eq_true hkk]
            subst hkk
            rcases hAx with ⟨rfl, _⟩ | ⟨j, p, _, hjx, hj⟩
            · rw [if_pos rfl]
              simp only [Option.isSome_none, Bool.false_eq_true, if_false]
              apply wpAny_bind
              apply wpAny_rule
              split
              · exact wpAny_pure (wpAny_pure (hsome x _ hkv))
              · exact wpAny_pure ⟨rfl, x + 1, some x, rfl, hrest', hlt, .inr ⟨x, _, rfl, Nat.lt_succ_self x, hkv⟩⟩
            · have := gidx hn hj hkv
              omega
          · rw [decide_eq_false hkk]
            simp only [Bool.false_eq_true, if_false]
            apply wpAny_bind
            apply wpAny_rule
            rw [if_neg (by simp)]
            exact wpAny_pure ⟨rfl, x + 1, hit, rfl, hrest', hlt, hstay hkk⟩
        · rw [if_neg hh]
          refine wpAny_pure ⟨rfl, x + 1, hit, rfl, hrest', hlt, hstay ?_⟩
          intro hkk
          rw [hkk] at hh
          simp at hh
      · rintro b s' ⟨rfl, i, hit, rfl, hr, hi, hA⟩
        exact wpAny_pure (last i hit hA hi hr)
end
end Mx
end
section
set_option Elab.async false
set_option maxRecDepth 100000
set_option maxHeartbeats 1000000
namespace Mx
open PySem PySem.Spec PyProof.Rows L2
/-- the entries as they stand: keys by value, or at the addresses bs -/
def KeyV (bs : GK → Addr) : GK → Value → Prop
  | .inl x, v => ∃ t, v = .str x t
  | .inr ks, v => v = .ref (bs (.inr ks))
def EntP (bs : GK → Addr) (p : GK × V) (q : GK × Value × Value) : Prop := p.1 = q.1 ∧ KeyV bs q.1 q.2.1 ∧ RelV p.2 q.2.2
def MxAt (P : Program) (w : World) (a : Addr) (kvs : List (GK × V)) (bs : GK → Addr) (h : Heap) : Prop :=
  kvs.length ≤ sizeLine ∧ (a == sysModules) = false ∧ ∃ xs : List (GK × Value × Value), Paired (EntP bs) kvs xs ∧
    ∃ o es ep, h.get? a = some o ∧ o.ExactDict ∧ o.data = .dict es ep ∧ es.toList = xs.map (gent P w) ∧ (xs.map (·.1)).Nodup
def MxO (P : Program) (w : World) (a : Addr) (kvs : List (GK × V)) (bs : GK → Addr) : HO := .ext (MxAt P w a kvs bs)
/-- the tuples among the keys stand -/
def KeysAt (H : Hp) (kvs : List (GK × V)) (bs : GK → Addr) : Prop := ∀ p ∈ kvs, ∀ ks, p.1 = .inr ks → TupA H (bs (.inr ks)) (ks.map kV)
/-- the value y is the key k -/
def IsK (H : Hp) : GK → V → Prop
  | .inl x, y => y = .str x
  | .inr ks, y => ∃ b, y = .ref b ∧ TupA H b (ks.map kV)

theorem Paired.app {α β : Type} {R : α → β → Prop} : ∀ {l l2 : List α} {m m2 : List β}, Paired R l m → Paired R l2 m2 → Paired R (l ++ l2) (m ++ m2)
  | _, _, _, _, .nil, q => q
  | _, _, _, _, .cons r t, q => .cons r (Paired.app t q)
theorem Paired.at_ {α β : Type} {R : α → β → Prop} : ∀ {l : List α} {m : List β}, Paired R l m → ∀ {b : β}, b ∈ m → ∃ a ∈ l, R a b
  | _, _, .cons r t, b, hb => by
    rcases List.mem_cons.mp hb with e | hb
    · subst e
      exact ⟨_, List.mem_cons_self, r⟩
    · obtain ⟨a, ha, q⟩ := Paired.at_ t hb
      exact ⟨a, List.mem_cons_of_mem _ ha, q⟩
theorem ent_val {bs : GK → Addr} {kvs : List (GK × V)} {xs : List (GK × Value × Value)} (r : Paired (EntP bs) kvs xs) (k : GK) : RelO (valV kvs k) ((gat xs k).map (·.2)) := by
  induction r with
  | nil => exact True.intro
  | @cons p q ps qs h t ih =>
    obtain ⟨h1, h2, h3⟩ := h
    by_cases e : p.1 = k
    · have e' : q.1 = k := h1.symm.trans e
      have b : (gat (q :: qs) k).map (·.2) = some q.2.2 := by
        unfold gat
        rw [List.find?_cons, decide_eq_true e']
        rfl
      rw [valV_pos e, b]
      exact h3
    · have e' : ¬ q.1 = k := fun z => e (h1.trans z)
      have b : gat (q :: qs) k = gat qs k := by
        unfold gat
        rw [List.find?_cons, decide_eq_false e']
      rw [valV_neg e, b]
      exact ih
theorem ent_keys {bs : GK → Addr} {kvs : List (GK × V)} {xs : List (GK × Value × Value)} (r : Paired (EntP bs) kvs xs) : kvs.map (·.1) = xs.map (·.1) := by
  induction r with
  | nil => rfl
  | cons h t ih =>
    rw [List.map_cons, List.map_cons, h.1, ih]
/-- what the object says, and its keys -/
theorem mx_open {P : Program} {w : World} {H : Hp} {h : Heap} {a : Addr} {kvs : List (GK × V)} {bs : GK → Addr} (ok : HOk P w H h) (e : H a = some (MxO P w a kvs bs)) (ks : KeysAt H kvs bs) :
    kvs.length ≤ sizeLine ∧ (a == sysModules) = false ∧ ∃ xs : List (GK × Value × Value), Paired (EntP bs) kvs xs ∧ (∀ x ∈ xs, gis P w h x.1 x.2.1) ∧
      ∃ o es ep, h.get? a = some o ∧ o.ExactDict ∧ o.data = .dict es ep ∧ es.toList = xs.map (gent P w) ∧ (xs.map (·.1)).Nodup := by
  obtain ⟨⟨z, y, xs, r, rest⟩, _, _⟩ := (show ObjOk P w H h a (.ext (MxAt P w a kvs bs)) from ok a _ e)
  refine ⟨z, y, xs, r, fun x hx => ?_, rest⟩
  obtain ⟨p, hp, h1, h2, h3⟩ := Paired.at_ r hx
  obtain ⟨k, kv, v⟩ := x
  cases k with
  | inl x =>
    obtain ⟨t, e⟩ := h2
    have e' : kv = .str x t := e
    show Value.isStrOf x kv = true
    rw [e']
    simp [Value.isStrOf]
  | inr l =>
    have e' : kv = .ref (bs (.inr l)) := h2
    exact ⟨_, e', key_ofR ok (ks p hp l h1)⟩
theorem mx_new {P : Program} {w : World} {H : Hp} {h : Heap} {a : Addr} {kvs : List (GK × V)} {bs : GK → Addr} (m : MxAt P w a kvs bs h) : ObjOk P w H h a (MxO P w a kvs bs) := by
  obtain ⟨z, y, xs, r, o, es, ep, e, rest⟩ := m
  refine ⟨⟨z, y, xs, r, o, es, ep, e, rest⟩, ⟨o, e⟩, ?_⟩
  rintro h1 h2 ⟨z, y, xs, r, o, es, ep, e, rest⟩ k
  exact ⟨z, y, xs, r, o, es, ep, k _ e, rest⟩

section
variable {X : Cx} {pins : List (Addr × Obj)} {σ : L2.St} {H : Hp} {s : Shared} {a : Addr} {kvs : List (GK × V)} {bs : GK → Addr} {k : GK} {y v : V} {u : Value} {A : Around} {E : Value → Shared → Prop}
theorem isK_gis {P : Program} {w : World} {h : Heap} (ok : HOk P w H h) (hk : IsK H k y) (ry : RelV y u) : gis P w h k u := by
  cases k with
  | inl x =>
    have e : y = .str x := hk
    subst e
    obtain ⟨t, rfl⟩ := ry
    show Value.isStrOf x (.str x t) = true
    simp [Value.isStrOf]
  | inr ks =>
    obtain ⟨b, rfl, hb⟩ := hk
    exact ⟨b, ry, key_ofR ok hb⟩
/-- there is a tuple among the keys -/
def HasT (kvs : List (GK × V)) : Prop := ∃ p ∈ kvs, ∃ ks, p.1 = .inr ks
theorem hasT_xs {xs : List (GK × Value × Value)} (r : Paired (EntP bs) kvs xs) (h : HasT kvs) : ∃ x ∈ xs, ∃ ks, x.1 = .inr ks := by
  obtain ⟨p, hp, ks, e⟩ := h
  have q : (Sum.inr ks : GK) ∈ xs.map (·.1) := by
    rw [← ent_keys r]
    exact List.mem_map.mpr ⟨p, hp, e⟩
  obtain ⟨x, hx, ex⟩ := List.mem_map.mp q
  exact ⟨x, hx, ks, ex⟩
theorem mx_get {Q : Option Value → Shared → Prop} (hu : A.units < cLine) (I : Inv X pins σ H s) (e : H a = some (MxO X.prog X.w a kvs bs)) (ks : KeysAt H kvs bs) (ht : HasT kvs) (hk : IsK H k y) (ry : RelV y u)
    (h : ∀ o s', Inv X pins σ H s' → RelO (valV kvs k) o → Q o s') : wpAny (model X.prog X.w) A (dictGet a u) Q E s := by
  obtain ⟨z, hd, xs, r, his, o, es, ep, ho, hx, hdt, he, hn⟩ := mx_open I.hok e ks
  have hkey := isK_gis I.hok hk ry
  have rv := ent_val r k
  unfold dictGet
  try with_reducible refine wpAny_holding ?_
  apply wpAny_bind
  apply gis_hash hu hkey
  apply wpAny_bind
  refine gfind (s := { s with toks := s.toks + gdraws k }) hu hkey ho hdt he his hn (.inr (hasT_xs r ht)) ?_ ?_
  · intro hno
    rw [gat_none hno] at rv
    exact wpAny_pure (h _ _ (I.tok _) rv)
  · intro j p hj
    rw [gat_of hn hj] at rv
    apply wpAny_bind
    refine wpAny_dictEntries (s := { s with toks := s.toks + gdraws k }) ho hdt ?_
    rw [gent_at he j, hj]
    exact wpAny_pure (h _ _ (I.tok _) rv)
theorem mx_type (I : Inv X pins σ H s) (e : H a = some (MxO X.prog X.w a kvs bs)) (ks : KeysAt H kvs bs) : s.TypeIs (.ref a) "dict" := by
  obtain ⟨z, hd, xs, r, his, o, es, ep, ho, hx, _⟩ := mx_open I.hok e ks
  exact ⟨o, ho, hx.1⟩
theorem mx_getItem {Q : Value → Shared → Prop} (hu : A.units + 1 < cLine) (I : Inv X pins σ H s) (e : H a = some (MxO X.prog X.w a kvs bs)) (ks : KeysAt H kvs bs) (ht : HasT kvs) (hk : IsK H k y) (ry : RelV y u) (hv : valV kvs k = some v)
    (h : ∀ w' s', Inv X pins σ H s' → RelV v w' → Q w' s') : wpAny (model X.prog X.w) A (getItem (.ref a) u) Q E s := by
  have hT := mx_type I e ks
  unfold getItem
  try with_reducible refine wpAny_holding ?_
  apply wpAny_bind
  apply wpAny_sequenceKey hT (by decide)
  apply wpAny_bind
  refine wpAny_callSpecial?_slot (name := Str.ofString "__getitem__") hT slot_dict_getitem ?_
  refine wpAny_call_entry slot_dict_getitem hT entry_dict_getitem ?_ (args_dict_getitem _ _)
  show wpAny _ _ (dictGet a u >>= _) _ _ s
  apply wpAny_bind
  refine mx_get (A := A.in1) hu I e ks ht hk ry ?_
  intro o s' I' r
  rw [hv] at r
  cases o with
  | none => exact (show False from r).elim
  | some w' => exact wpAny_pure ⟨w', rfl, wpAny_pure (h w' s' I' r)⟩
/-! storing -/
theorem ent_put {xs : List (GK × Value × Value)} {kv r' : Value} (r : Paired (EntP bs) kvs xs) (hn : (xs.map (·.1)).Nodup) (hk : KeyV bs k kv) (rv : RelV v r') :
    (gat xs k = none → Paired (EntP bs) (putK kvs k v) (xs ++ [(k, kv, r')])) ∧
    (∀ j p, xs[j]? = some (k, p) → Paired (EntP bs) (putK kvs k v) (xs.set j (k, p.1, r'))) := by
  have al := ent_val r k
  refine ⟨fun h0 => ?_, fun j p hj => ?_⟩
  · rw [h0] at al
    have h1 : valV kvs k = none := by
      cases q : valV kvs k with
      | none => rfl
      | some z =>
        rw [q] at al
        exact (show False from al).elim
    rw [putK_new v h1]
    exact Paired.app r (.cons ⟨rfl, hk, rv⟩ .nil)
  · have h1 : (valV kvs k).isSome = true := by
      rw [al.isSome_eq, gat_of hn hj]
      rfl
    have h2 : putK kvs k v = kvs.map (fun q => if q.1 = k then (q.1, v) else q) := by
      unfold putK
      rw [valV_any, h1]
      exact if_pos rfl
    rw [h2]
    clear h2 h1 al
    induction r generalizing j with
    | nil => simp at hj
    | @cons p0 q0 ps qs h t ih =>
      rw [List.map_cons, List.nodup_cons] at hn
      cases j with
      | zero =>
        simp only [List.getElem?_cons_zero, Option.some.injEq] at hj
        subst hj
        have e0 : p0.1 = k := h.1
        have rest : ps.map (fun q => if q.1 = k then (q.1, v) else q) = ps := by
          refine (List.map_congr_left fun q hq => ?_).trans (List.map_id ps)
          have hne : ¬ q.1 = k := fun z => by
            have m : q.1 ∈ ps.map (·.1) := List.mem_map.mpr ⟨q, hq, rfl⟩
            rw [ent_keys t, z] at m
            exact hn.1 m
          rw [if_neg hne]
          rfl
        rw [List.map_cons, rest, if_pos e0]
        exact .cons ⟨e0, h.2.1, rv⟩ t
      | succ i =>
        simp only [List.getElem?_cons_succ] at hj
        have m : k ∈ qs.map (·.1) := List.mem_map.mpr ⟨(k, p), List.mem_of_getElem? hj, rfl⟩
        have hne : ¬ p0.1 = k := fun z => hn.1 (by rw [← h.1, z]; exact m)
        rw [List.map_cons, if_neg hne]
        exact .cons h (ih hn.2 i hj)
theorem mx_setItem {r' : Value} {Q : Unit → Shared → Prop} (hu : A.units + 1 < cLine) (I : Inv X pins σ H s) (e : H a = some (MxO X.prog X.w a kvs bs)) (ks : KeysAt H kvs bs) (ht : HasT kvs ∨ ∃ l, k = .inr l) (hk : IsK H k y) (ry : RelV y u) (rv : RelV v r')
    (hb : ∀ l, k = .inr l → y = .ref (bs k)) (hl : kvs.length < sizeLine)
    (h : ∀ s', Inv X pins σ (upd H a (MxO X.prog X.w a (putK kvs k v) bs)) s' → Q () s') : wpAny (model X.prog X.w) A (setItem (.ref a) u r') Q E s := by
  have hT := mx_type I e ks
  obtain ⟨z, hd, xs, r, his, o, es, ep, ho, hx, hdt, he, hn⟩ := mx_open I.hok e ks
  have hkey := isK_gis I.hok hk ry
  have hmut : Mut (H a) := by
    rw [e]
    exact True.intro
  have kvv : KeyV bs k u := by
    cases k with
    | inl x =>
      have e' : y = .str x := hk
      subst e'
      exact ry
    | inr l =>
      have e' := hb l rfl
      subst e'
      exact ry
  have len : (putK kvs k v).length ≤ sizeLine := by
    have := length_putK kvs k v
    omega
  have hz : es.size ≤ sizeLine := by
    rw [gent_size he, ← Paired.length r]
    exact z
  unfold setItem
  try with_reducible refine wpAny_holding ?_
  apply wpAny_bind
  apply wpAny_sequenceKey hT (by decide)
  apply wpAny_bind
  refine wpAny_callSpecial?_slot (name := Str.ofString "__setitem__") hT slot_dict_setitem ?_
  refine wpAny_call_entry slot_dict_setitem hT entry_dict_setitem ?_ (args_dict_setitem _ _ _)
  show wpAny _ _ (Builtin.Dict.notOrdered "__setitem__" ⟨[.ref a, u, r'], []⟩ >>= _) _ _ s
  apply wpAny_bind
  apply wpAny_notOrdered_dict hT
  show wpAny _ _ (dictSet a u r' >>= _) _ _ s
  apply wpAny_bind
  unfold dictSet
  try with_reducible refine wpAny_holding ?_
  apply wpAny_bind
  apply gis_hash (A := A.in1) hu hkey
  unfold dictSetHashed
  try with_reducible refine wpAny_holding ?_
  apply wpAny_bind
  refine gfind (A := A.in1) (s := { s with toks := s.toks + gdraws k }) hu hkey ho hdt he his hn ?_ ?_ ?_
  · rcases ht with ht | ⟨l, hl⟩
    · exact .inr (hasT_xs r ht)
    · exact .inl ⟨l, hl⟩
  · intro hno
    apply wpAny_bind
    apply wpAny_rule
    refine wpAny_updateDictKeys (hz := hz) (s := { s with toks := s.toks + gdraws k }) ho hdt ?_
    refine wpAny_pure ⟨.none, rfl, wpAny_pure (h _ ?_)⟩
    refine d_write (t' := s.toks + gdraws k) (I.tok (s.toks + gdraws k)) hmut (Heap.SameBut.update ..) ⟨_, Heap.get?_update_self _ ho (Obj.isFreed_of_dict (Obj.data_mapDictKeys hdt _))⟩ (mx_new ?_)
    refine ⟨len, hd, xs ++ [(k, u, r')], (ent_put r hn kvv rv).1 (gat_none hno), _, _, ep + 1, Heap.get?_update_self _ ho (Obj.isFreed_of_dict (Obj.data_mapDictKeys hdt _)), hx.mapDictKeys _, Obj.data_mapDictKeys hdt _, ?_, ?_⟩
    · rw [Array.toList_push, he, List.map_append]
      rfl
    · rw [List.map_append, List.nodup_append]
      refine ⟨hn, by simp, ?_⟩
      intro x hx y hy
      simp only [List.map_cons, List.map_nil, List.mem_singleton] at hy
      subst hy
      intro e
      subst e
      obtain ⟨q, hq, eq⟩ := List.mem_map.mp hx
      obtain ⟨j, hj⟩ := List.mem_iff_getElem?.mp hq
      exact hno j q.2 (by rw [hj, ← eq])
  · intro j p hj
    apply wpAny_bind
    apply wpAny_rule
    apply wpAny_bind
    refine wpAny_updateDict (s := { s with toks := s.toks + gdraws k }) ho hdt ?_
    apply wpAny_point
    refine wpAny_pure ⟨.none, rfl, wpAny_pure (h _ ?_)⟩
    refine d_write (t' := s.toks + gdraws k) (I.tok (s.toks + gdraws k)) hmut (Heap.SameBut.update ..) ⟨_, Heap.get?_update_self _ ho (Obj.isFreed_of_dict (Obj.data_mapDict hdt _))⟩ (mx_new ?_)
    refine ⟨len, hd, xs.set j (k, p.1, r'), (ent_put r hn kvv rv).2 j p hj, _, _, ep, Heap.get?_update_self _ ho (Obj.isFreed_of_dict (Obj.data_mapDict hdt _)), hx.mapDict _, Obj.data_mapDict hdt _, ?_, ?_⟩
    · have hjl : j < xs.length := (List.getElem?_eq_some_iff.mp hj).1
      rw [Array.toList_modify, he]
      apply List.ext_getElem?
      intro i
      rw [List.getElem?_modify, List.getElem?_map, List.getElem?_map, List.getElem?_set]
      by_cases hij : j = i
      · subst hij
        rw [if_pos rfl, if_pos hjl, hj]
        simp [gent]
      · rw [if_neg hij]
        cases xs[i]? <;> simp [hij]
    · have e1 : (xs.set j (k, p.1, r')).map (·.1) = xs.map (·.1) := by
        apply List.ext_getElem?
        intro i
        rw [List.getElem?_map, List.getElem?_map, List.getElem?_set]
        by_cases hij : j = i
        · subst hij
          have hjl : j < xs.length := (List.getElem?_eq_some_iff.mp hj).1
          rw [if_pos rfl, if_pos hjl, hj]
          rfl
        · rw [if_neg hij]
      rw [e1]
      exact hn
end
end Mx
end
section
set_option Elab.async false
set_option maxRecDepth 100000
set_option maxHeartbeats 1000000
namespace Mx
open PySem PySem.Spec PyProof.Rows L2
def gk : Key → GK
  | .inl i => .inr [.inl i]
  | .inr x => .inl x
def gkv (kvs : List (Key × V)) : List (GK × V) := kvs.map fun p => (gk p.1, p.2)
def AllStr (kvs : List (Key × V)) : Prop := ∀ p ∈ kvs, ∃ x, p.1 = .inr x
theorem kv_keys {κ : Type} : ∀ {kvs : List (κ × V)} {vs : List (κ × Value)}, KV kvs vs → kvs.map (·.1) = vs.map (·.1)
  | _, _, .nil => rfl
  | _, _, .cons r t => by
    rw [List.map_cons, List.map_cons, r.1, kv_keys t]
theorem mx_of_dk {P : Program} {w : World} {H : Hp} {h : Heap} {a : Addr} {kvs : List (Key × V)} (ok : HOk P w H h) (e : H a = some (.dK kvs)) (hs : AllStr kvs) (bs : GK → Addr) : MxAt P w a (gkv kvs) bs h := by
  obtain ⟨z, hd, vs, rel, o, es, ep, ho, hx, hdt, hko, hp, hn⟩ := dk_of ok e
  have keys : kvs.map (·.1) = vs.map (·.1) := kv_keys rel
  have build : ∀ (l : List DictEntry) (kvs : List (Key × V)) (vs : List (Key × Value)), (∀ e ∈ l, ∃ k, (mixKind P w).is k e.key = true ∧ e.hash = (mixKind P w).hash k) → Pairs (mixKind P w) l vs → KV kvs vs → AllStr kvs →
      ∃ xs : List (GK × Value × Value), Paired (EntP bs) (gkv kvs) xs ∧ l = xs.map (gent P w) := by
    intro l
    induction l with
    | nil =>
      intro kvs vs _ p r _
      cases p
      cases r
      exact ⟨[], .nil, rfl⟩
    | cons e l ih =>
      intro kvs vs hk p r hs
      cases p with
      | cons p1 p2 p3 =>
        cases r with
        | cons r1 r2 =>
          obtain ⟨xs, q1, q2⟩ := ih _ _ (fun e he => hk e (List.mem_cons_of_mem _ he)) p3 r2 fun p hp => hs p (List.mem_cons_of_mem _ hp)
          rename_i kv l2 p0 kvs2
          obtain ⟨x, hx⟩ := hs p0 List.mem_cons_self
          obtain ⟨k, k1, k2⟩ := hk e List.mem_cons_self
          have ek : k = kv.1 := (mixKind P w).inj _ _ _ k1 p1
          have ekx : kv.1 = .inr x := r1.1.symm.trans hx
          rw [ekx] at p1 ek
          subst ek
          obtain ⟨t, et⟩ := Value.isStrOf_shape (x := x) (v := e.key) p1
          refine ⟨(.inl x, e.key, e.val) :: xs, .cons ⟨?_, ⟨t, et⟩, ?_⟩ q1, ?_⟩
          · show gk p0.1 = .inl x
            rw [hx]
            rfl
          · show RelV p0.2 e.val
            rw [p2]
            exact r1.2
          · rw [List.map_cons, q2]
            congr 1
            obtain ⟨eh, ek, ev⟩ := e
            have k2' : eh = hashStr w x := k2
            rw [k2']
            rfl
  obtain ⟨xs, q1, q2⟩ := build es.toList kvs vs (fun e he => hko e (Array.mem_toList_iff.mp he)) hp rel hs
  refine ⟨by unfold gkv; rw [List.length_map]; exact z, hd, xs, q1, o, es, ep, ho, hx, hdt, q2, ?_⟩
  rw [← ent_keys q1]
  unfold gkv
  rw [List.map_map]
  have inj : ∀ p ∈ kvs, ∀ q ∈ kvs, gk p.1 = gk q.1 → p.1 = q.1 := by
    intro p hp q hq e
    obtain ⟨x, hx⟩ := hs p hp
    obtain ⟨y, hy⟩ := hs q hq
    rw [hx, hy] at e ⊢
    injection e with e
    rw [e]
  rw [← keys] at hn
  clear build q1 q2 keys hp rel hs z e
  induction kvs with
  | nil => exact List.nodup_nil
  | cons p l ih =>
    rw [List.map_cons, List.nodup_cons] at hn ⊢
    refine ⟨fun hm => ?_, ih hn.2 fun a ha b hb => inj a (List.mem_cons_of_mem _ ha) b (List.mem_cons_of_mem _ hb)⟩
    obtain ⟨q, hq, e⟩ := List.mem_map.mp hm
    have := inj q (List.mem_cons_of_mem _ hq) p List.mem_cons_self e
    exact hn.1 (List.mem_map.mpr ⟨q, hq, this⟩)

/-! ### rules -/
def tMGet (P : Program) (w : World) (td ty : TE) : TE := fun σ H Q => td σ H fun x H1 => ty σ H1 fun y H2 => ∃ a kvs bs k v, x = .ref a ∧ H2 a = some (MxO P w a kvs bs) ∧ KeysAt H2 kvs bs ∧ HasT kvs ∧ IsK H2 k y ∧ valV kvs k = some v ∧ Q v H2
def sMPut (P : Program) (w : World) (td ty tv : TE) : TS := fun D σ H => tv σ H fun v H1 => td σ H1 fun x H2 => ty σ H2 fun y H3 => ∃ a kvs bs k, x = .ref a ∧ H3 a = some (MxO P w a kvs bs) ∧ KeysAt H3 kvs bs ∧ (HasT kvs ∨ ∃ l, k = .inr l) ∧ IsK H3 k y ∧
  (∀ l, k = .inr l → y = .ref (bs k)) ∧ kvs.length < sizeLine ∧ D.nx σ (upd H3 a (MxO P w a (putK kvs k v) bs))
/-- the first tuple key: the dict was one of texts -/
def sMPut0 (P : Program) (w : World) (td ty tv : TE) : TS := fun D σ H => tv σ H fun v H1 => td σ H1 fun x H2 => ty σ H2 fun y H3 => ∃ a kvs bs l, x = .ref a ∧ H3 a = some (.dK kvs) ∧ AllStr kvs ∧ IsK H3 (.inr l) y ∧
  y = .ref (bs (.inr l)) ∧ kvs.length < sizeLine ∧ D.nx σ (upd H3 a (MxO P w a (putK (gkv kvs) (.inr l) v) bs))
section
variable {X : Cx} {o i value : Expr} {pos pos' : Pos} {td ty tv : TE}
theorem pe_mget (hu : X.A.units + 1 < cLine) (ho : PE X o td) (hi : PE X i ty) (hs : NoSl i) : PE X (.Subscript o i pos) (tMGet X.prog X.w td ty) := by
  constructor
  intro pins s σ H Q I h
  refine subD_of PySem.F.slot_dict_getitem.lookup hs (thn (ho.run pins s σ H _ I h) ?_)
  rintro u s1 ⟨x, H1, I1, rx, q1⟩
  refine thn (hi.run pins s1 σ H1 _ I1 q1) ?_
  rintro iv s2 ⟨y, H2, I2, ry, a, kvs, bs, k, v, ex, e, ks, ht, hk, hv, q2⟩
  subst ex
  have eu : u = Value.ref a := rx
  subst eu
  exact ⟨mx_type I2 e ks, mx_getItem hu I2 e ks ht hk ry hv fun w' s3 I3 rw' => ⟨v, H2, I3, rw', q2⟩⟩
theorem ps_mput (hu : X.A.units + 1 < cLine) (ho : PE X o td) (hi : PE X i ty) (hv : PE X value tv) (hs : swapsWith value (some (.Subscript o i pos')) pos.line X.env = pure false) :
    PS X (.Assign [.Subscript o i pos'] value pos) (sMPut X.prog X.w td ty tv) := by
  constructor
  intro pins s σ H D I h
  refine wpAny_Assign_Subscript (thn (hv.run pins s σ H _ I h) ?_) hs
  rintro r s1 ⟨v, H1, I1, rv, q1⟩
  refine thn (ho.run pins s1 σ H1 _ I1 q1) ?_
  rintro u s2 ⟨x, H2, I2, rx, q2⟩
  refine thn (hi.run pins s2 σ H2 _ I2 q2) ?_
  rintro iv s3 ⟨y, H3, I3, ry, a, kvs, bs, k, ex, e, ks, ht, hk, hb, hl, q3⟩
  subst ex
  have eu : u = Value.ref a := rx
  subst eu
  exact mx_setItem hu I3 e ks ht hk ry rv hb hl fun s4 I4 => ⟨σ, _, I4, q3⟩
theorem ps_mput0 (hu : X.A.units + 1 < cLine) (ho : PE X o td) (hi : PE X i ty) (hv : PE X value tv) (hs : swapsWith value (some (.Subscript o i pos')) pos.line X.env = pure false) :
    PS X (.Assign [.Subscript o i pos'] value pos) (sMPut0 X.prog X.w td ty tv) := by
  constructor
  intro pins s σ H D I h
  refine wpAny_Assign_Subscript (thn (hv.run pins s σ H _ I h) ?_) hs
  rintro r s1 ⟨v, H1, I1, rv, q1⟩
  refine thn (ho.run pins s1 σ H1 _ I1 q1) ?_
  rintro u s2 ⟨x, H2, I2, rx, q2⟩
  refine thn (hi.run pins s2 σ H2 _ I2 q2) ?_
  rintro iv s3 ⟨y, H3, I3, ry, a, kvs, bs, l, ex, e, hstr, hk, hb, hl, q3⟩
  subst ex
  have eu : u = Value.ref a := rx
  subst eu
  have m := mx_of_dk I3.hok e hstr bs
  have hm : Mut (H3 a) := by
    rw [e]
    exact True.intro
  obtain ⟨_, _, _, _, ob, _, _, hob, _⟩ := id m
  have I4 : Inv X pins σ (upd H3 a (MxO X.prog X.w a (gkv kvs) bs)) s3 := I3.write (x := a) (e := a) (h' := s3.heap) (t' := s3.toks) hm (.inl rfl) (fun _ _ _ q => q) ⟨_, hob⟩ (mx_new m)
  have kk : IsK (upd H3 a (MxO X.prog X.w a (gkv kvs) bs)) (.inr l) y := by
    obtain ⟨b, hb1, hb2⟩ := hk
    refine ⟨b, hb1, ?_⟩
    refine hb2.upd ?_
    rintro rfl
    rcases hb2 with h | ⟨_, ob, h⟩
    · rw [h] at e
      cases e
    · rw [h] at e
      cases e
  refine mx_setItem (a := a) (kvs := gkv kvs) (bs := bs) (k := .inr l) hu I4 upd_same ?_ (.inr ⟨l, rfl⟩) kk ry rv (fun _ _ => hb) (by unfold gkv; rw [List.length_map]; exact hl) ?_
  · intro p hp ks e'
    obtain ⟨q, hq, rfl⟩ := List.mem_map.mp hp
    obtain ⟨x, hx⟩ := hstr q hq
    have e2 : gk q.1 = .inr ks := e'
    rw [hx] at e2
    cases e2
  · intro s4 I5
    rw [upd_upd] at I5
    exact ⟨σ, _, I5, q3⟩
end
end Mx
end
section
set_option Elab.async false
set_option maxRecDepth 100000
set_option maxHeartbeats 1000000
/-! The store: cells by names, data by value. -/
namespace So
open PySem PySem.Spec PyProof.Rows L2 Mx

/-! ### data that never changes -/
mutual
inductive Dt (H : Hp) : V → PyData → Prop
  | non : Dt H .non .none
  | bl (b : Bool) : Dt H (.bl b) (.bool b)
  | int (i : Int) : Dt H (.int i) (.int i)
  | str (x : Str) : Dt H (.str x) (.str x)
  | tup {a : Addr} {xs : List V} {ds : List PyData} : TupA H a xs → Dts H xs ds → Dt H (.ref a) (.tuple ds)
inductive Dts (H : Hp) : List V → List PyData → Prop
  | nil : Dts H [] []
  | cons {v : V} {vs : List V} {d : PyData} {ds : List PyData} : Dt H v d → Dts H vs ds → Dts H (v :: vs) (d :: ds)
end
/-- the tuples stand -/
def Tk (H H' : Hp) : Prop := ∀ a xs, TupA H a xs → TupA H' a xs
/-- no tuple -/
def NoTup (u : HO) : Prop := (∀ xs, u ≠ .tup xs) ∧ ∀ ob xs, u ≠ .frz ob (.tup xs)
theorem Tk.refl (H : Hp) : Tk H H := fun _ _ h => h
theorem Tk.trans {H H1 H2 : Hp} (x : Tk H H1) (y : Tk H1 H2) : Tk H H2 := fun a xs h => y a xs (x a xs h)
theorem Tk.new {H : Hp} {p : Addr} {o : HO} (hp : H p = none) : Tk H (upd H p o) := fun a xs h => by
  obtain ⟨u, hu⟩ := h.some
  have e : upd H p o a = H a := upd_ne (ne_of_none hu hp)
  unfold TupA at h ⊢
  rw [e]
  exact h
theorem Tk.at_ {H : Hp} {p : Addr} {o u : HO} (hp : H p = some u) (hn : ∀ xs, u ≠ .tup xs) (hf : ∀ ob xs, u ≠ .frz ob (.tup xs) := by (intro _ _ z; first | cases z | (unfold MxO at z; cases z))) : Tk H (upd H p o) := fun a xs h => by
  have ne : a ≠ p := by
    rintro rfl
    rcases h with h | ⟨_, ob, h⟩
    · rw [h] at hp
      exact hn xs (Option.some.inj hp).symm
    · rw [h] at hp
      exact hf ob xs (Option.some.inj hp).symm
  have e : upd H p o a = H a := upd_ne ne
  unfold TupA at h ⊢
  rw [e]
  exact h
mutual
theorem Dt.mono {H H' : Hp} (t : Tk H H') : ∀ (d : PyData) {v : V}, Dt H v d → Dt H' v d
  | .none, _, h => by
    cases h
    exact .non
  | .bool _, _, h => by
    cases h
    exact .bl _
  | .int _, _, h => by
    cases h
    exact .int _
  | .str _, _, h => by
    cases h
    exact .str _
  | .list _, _, h => by cases h
  | .dict _, _, h => by cases h
  | .tuple ds, _, h => by
    cases h with
    | tup h1 h2 => exact .tup (t _ _ h1) (Dts.mono t ds h2)
theorem Dts.mono {H H' : Hp} (t : Tk H H') : ∀ (ds : List PyData) {vs : List V}, Dts H vs ds → Dts H' vs ds
  | [], _, h => by
    cases h
    exact .nil
  | d :: ds, _, h => by
    cases h with
    | cons h1 h2 => exact .cons (Dt.mono t d h1) (Dts.mono t ds h2)
end
theorem Dt.up {H H' : Hp} {d : PyData} {v : V} (h : Dt H v d) (t : Tk H H') : Dt H' v d := Dt.mono t d h
mutual
theorem Dt.dp {K : PySem.W.Frag} {H : Hp} : ∀ (d : PyData) {v : V}, Dt H v d → Dp K H v d
  | .none, _, h => by
    cases h
    exact .non
  | .bool _, _, h => by
    cases h
    exact .bl _
  | .int _, _, h => by
    cases h
    exact .int _
  | .str _, _, h => by
    cases h
    exact .str _
  | .list _, _, h => by cases h
  | .dict _, _, h => by cases h
  | .tuple ds, _, h => by
    cases h with
    | tup h1 h2 => exact .tup h1.sq (Dts.dp ds h2)
theorem Dts.dp {K : PySem.W.Frag} {H : Hp} : ∀ (ds : List PyData) {vs : List V}, Dts H vs ds → DpAll K H vs ds
  | [], _, h => by
    cases h
    exact .nil
  | d :: ds, _, h => by
    cases h with
    | cons h1 h2 => exact .cons (Dt.dp d h1) (Dts.dp ds h2)
end
theorem Dts.get {H : Hp} : ∀ {vs : List V} {ds : List PyData} {i : Nat} {d : PyData}, Dts H vs ds → ds[i]? = some d → ∃ v, vs[i]? = some v ∧ Dt H v d
  | _, _, i, _, .nil, e => by simp at e
  | _, _, 0, _, .cons h _, e => by
    have e' := Option.some.inj e
    subst e'
    exact ⟨_, rfl, h⟩
  | _, _, i + 1, _, .cons _ t, e => Dts.get (i := i) t e
theorem Dts.len {H : Hp} : ∀ {vs : List V} {ds : List PyData}, Dts H vs ds → vs.length = ds.length
  | _, _, .nil => rfl
  | _, _, .cons _ t => congrArg (· + 1) (Dts.len t)
theorem Dts.app {H : Hp} : ∀ {vs us : List V} {ds es : List PyData}, Dts H vs ds → Dts H us es → Dts H (vs ++ us) (ds ++ es)
  | _, _, _, _, .nil, s => s
  | _, _, _, _, .cons h t, s => .cons h (Dts.app t s)
theorem Dt.tupI {H : Hp} {v : V} {ds : List PyData} (h : Dt H v (.tuple ds)) : ∃ a xs, v = .ref a ∧ TupA H a xs ∧ Dts H xs ds := by
  cases h with
  | tup h1 h2 => exact ⟨_, _, rfl, h1, h2⟩
theorem Dt.intI {H : Hp} {v : V} {i : Int} (h : Dt H v (.int i)) : v = .int i := by cases h; rfl
theorem Dt.strI {H : Hp} {v : V} {x : Str} (h : Dt H v (.str x)) : v = .str x := by cases h; rfl
theorem Dt.blI {H : Hp} {v : V} {b : Bool} (h : Dt H v (.bool b)) : v = .bl b := by cases h; rfl
theorem Dt.nonI {H : Hp} {v : V} (h : Dt H v .none) : v = .non := by cases h; rfl
/-- keys as data -/
def kD : Key → PyData
  | .inl i => .int i
  | .inr x => .str x
theorem Dts.keys {H : Hp} : ∀ {ks : List Key} {vs : List V}, Dts H vs (ks.map kD) → vs = ks.map kV
  | [], _, h => by
    cases h
    rfl
  | k :: ks, _, h => by
    cases h with
    | cons h1 h2 =>
      rw [List.map_cons, Dts.keys h2]
      cases k with
      | inl i => rw [h1.intI]; rfl
      | inr x => rw [h1.strI]; rfl
theorem Dt.keyR {H : Hp} {v : V} {ks : List Key} (h : Dt H v (.tuple (ks.map kD))) : ∃ b, v = .ref b ∧ TupA H b (ks.map kV) := by
  obtain ⟨a, xs, e, h1, h2⟩ := h.tupI
  rw [h2.keys] at h1
  exact ⟨a, e, h1⟩
theorem Dt.key {H : Hp} {v : V} {ks : List Key} (h : Dt H v (.tuple (ks.map kD))) (n : ks.length ≠ 1) : ∃ b, v = .ref b ∧ H b = some (.tup (ks.map kV)) := by
  obtain ⟨b, e, h1⟩ := h.keyR
  exact ⟨b, e, h1.plain (by rw [List.length_map]; exact n)⟩
theorem dts_ints {H : Hp} : ∀ ns : List Int, Dts H (ns.map V.int) (ns.map PyData.int)
  | [] => .nil
  | n :: ns => .cons (.int n) (dts_ints ns)

/-! ### tables over any kind of worth -/
section
variable {κ β : Type} [DecidableEq κ]
def putI (kvs : List (κ × β)) (k : κ) (v : β) : List (κ × β) := if (kvs.any fun kv => decide (kv.1 = k)) = true then kvs.map (fun kv => if kv.1 = k then (kv.1, v) else kv) else kvs ++ [(k, v)]
def valI (kvs : List (κ × β)) (k : κ) : Option β := (kvs.find? fun kv => decide (kv.1 = k)).map (·.2)
end
def KvR {κ α β : Type} (R : α → β → Prop) (p : κ × α) (q : κ × β) : Prop := p.1 = q.1 ∧ R p.2 q.2
theorem kv_val {κ β : Type} [DecidableEq κ] {R : V → β → Prop} {ps : List (κ × V)} {kvs : List (κ × β)} (r : Paired (KvR R) ps kvs) {k : κ} {b : β} (h : valI kvs k = some b) : ∃ v, valV ps k = some v ∧ R v b := by
  induction r with
  | nil => cases h
  | @cons p q ps qs h1 t ih =>
    by_cases e : q.1 = k
    · have e' : p.1 = k := h1.1.trans e
      have hb : valI (q :: qs) k = some q.2 := by
        unfold valI
        rw [List.find?_cons, decide_eq_true e]
        rfl
      rw [hb] at h
      have := Option.some.inj h
      subst this
      exact ⟨p.2, valV_pos e', h1.2⟩
    · have e' : ¬ p.1 = k := fun z => e (h1.1.symm.trans z)
      have hb : valI (q :: qs) k = valI qs k := by
        unfold valI
        rw [List.find?_cons, decide_eq_false e]
      rw [hb] at h
      obtain ⟨v, h2, h3⟩ := ih h
      exact ⟨v, by rw [valV_neg e']; exact h2, h3⟩
theorem kv_none {κ β : Type} [DecidableEq κ] {R : V → β → Prop} {ps : List (κ × V)} {kvs : List (κ × β)} (r : Paired (KvR R) ps kvs) {k : κ} (h : valI kvs k = none) : valV ps k = none := by
  induction r with
  | nil => rfl
  | @cons p q ps qs h1 t ih =>
    by_cases e : q.1 = k
    · have hb : valI (q :: qs) k = some q.2 := by
        unfold valI
        rw [List.find?_cons, decide_eq_true e]
        rfl
      rw [hb] at h
      cases h
    · have e' : ¬ p.1 = k := fun z => e (h1.1.symm.trans z)
      have hb : valI (q :: qs) k = valI qs k := by
        unfold valI
        rw [List.find?_cons, decide_eq_false e]
      rw [hb] at h
      rw [valV_neg e']
      exact ih h
theorem kv_put {κ β : Type} [DecidableEq κ] {R : V → β → Prop} {ps : List (κ × V)} {kvs : List (κ × β)} (r : Paired (KvR R) ps kvs) {k : κ} {v : V} {b : β} (h : R v b) : Paired (KvR R) (putK ps k v) (putI kvs k b) := by
  have ea : (ps.any fun kv => decide (kv.1 = k)) = (kvs.any fun kv => decide (kv.1 = k)) := by
    induction r with
    | nil => rfl
    | cons h1 _ ih => rw [List.any_cons, List.any_cons, ih, h1.1]
  unfold putK putI
  rw [ea]
  by_cases c : (kvs.any fun kv => decide (kv.1 = k)) = true
  · rw [if_pos c, if_pos c]
    clear ea c
    induction r with
    | nil => exact .nil
    | @cons p q _ _ h1 _ ih =>
      rw [List.map_cons, List.map_cons]
      refine .cons ?_ ih
      by_cases e : q.1 = k
      · rw [if_pos e, if_pos (h1.1.trans e)]
        exact ⟨h1.1, h⟩
      · rw [if_neg e, if_neg (fun z => e (h1.1.symm.trans z))]
        exact h1
  · rw [if_neg c, if_neg c]
    exact Paired.app r (.cons ⟨rfl, h⟩ .nil)
theorem pr_get {α β : Type} {R : α → β → Prop} : ∀ {xs : List α} {ys : List β} {i : Nat} {y : β}, Paired R xs ys → ys[i]? = some y → ∃ x, xs[i]? = some x ∧ R x y
  | _, _, i, _, .nil, e => by simp at e
  | _, _, 0, _, .cons h _, e => by
    have e' := Option.some.inj e
    subst e'
    exact ⟨_, rfl, h⟩
  | _, _, i + 1, _, .cons _ t, e => pr_get (i := i) t e
theorem pr_of {α β : Type} {R : α → β → Prop} : ∀ {xs : List α} {ys : List β} {i : Nat} {x : α}, Paired R xs ys → xs[i]? = some x → ∃ y, ys[i]? = some y ∧ R x y
  | _, _, i, _, .nil, e => by simp at e
  | _, _, 0, _, .cons h _, e => by
    have e' := Option.some.inj e
    subst e'
    exact ⟨_, rfl, h⟩
  | _, _, i + 1, _, .cons _ t, e => pr_of (i := i) t e
theorem pr_set {α β : Type} {R : α → β → Prop} {x : α} {y : β} (h : R x y) : ∀ {xs : List α} {ys : List β} (i : Nat), Paired R xs ys → Paired R (xs.set i x) (ys.set i y)
  | _, _, _, .nil => .nil
  | _, _, 0, .cons _ t => .cons h t
  | _, _, i + 1, .cons q t => .cons q (pr_set h i t)
theorem pr_map {α β : Type} {R R' : α → β → Prop} : ∀ {xs : List α} {ys : List β}, Paired R xs ys → (∀ x y, R x y → R' x y) → Paired R' xs ys
  | _, _, .nil, _ => .nil
  | _, _, .cons h t, f => .cons (f _ _ h) (pr_map t f)

/-! ### cells -/
inductive Loc where
  | box | cells
  | net | bag (k : Nat) | up (k : Nat) | files | claims | fights | noted (k : Nat) | cycles
  | file (i b : Nat) | fileC (i b : Nat)
  | cyc (c : Nat) | cycS (c : Nat) | cycC (c : Nat)
  | acq (i : Nat) | mer (i : Nat) | pur (i : Nat) | prow (i n : Nat) | fls (i : Nat) | frow (i b k : Nat) | acyc (i : Nat)
  | iss (j : Nat) | bal (j : Nat) | ipur (j : Nat) | irow (j i n : Nat) | icyc (j : Nat)
  | pr (k a b : Nat)
  | swl
  | t (p : Addr)
  deriving DecidableEq
abbrev L := Loc
inductive Im where
  | d (x : PyData)
  | l (c : L)
  | a (p : Addr)
inductive Ce where
  | lst (xs : List (Im))
  | dk (kvs : List (Key × Im))
  | dt (kvs : List (List Key × Im))
  | mx (kvs : List (GK × Im))
  | ins (C : Addr) (fs : List (Str × Im))
  | any
  | sw (b : Addr)
  | xo (C : Addr)
abbrev Sto := L → Option Ce
section
def Sto.put (S : Sto) (c : L) (e : Ce) : Sto := fun x => if x = c then some e else S x
theorem put_same {S : Sto} {c : L} {e : Ce} : S.put c e c = some e := if_pos rfl
theorem put_ne {S : Sto} {c x : L} {e : Ce} (h : x ≠ c) : S.put c e x = S x := if_neg h
theorem put_dom {S : Sto} {c x : L} {e : Ce} (h : S x ≠ none) : S.put c e x ≠ none := by
  by_cases q : x = c
  · subst q
    rw [put_same]
    exact fun z => nomatch z
  · rw [put_ne q]
    exact h
/-- an exception that is held, not raised: its class, its arguments at t -/
def XoAt (C a t : Addr) (h : Heap) : Prop := ∃ (oe : Obj) (ws : Array Value), h.get? a = some oe ∧ oe.cls = .ref C ∧ oe.dict = none ∧ oe.data = .fields ws ∧ ws[0]? = some (.ref t)
def XoO (C a t : Addr) : HO := .ext (XoAt C a t)
theorem xo_notup {C a t : Addr} : NoTup (XoO C a t) := ⟨(fun _ z => by unfold XoO at z; cases z), fun _ _ z => by unfold XoO at z; cases z⟩
def ItAt (H : Hp) (ad : L → Addr) (S : Sto) (v : V) : Im → Prop
  | .d x => Dt H v x
  | .l c => v = .ref (ad c) ∧ S c ≠ none
  | .a p => v = .ref p
def CeAt (P : Program) (w : World) (H : Hp) (ad : L → Addr) (S : Sto) (a : Addr) : Ce → Prop
  | .lst its => ∃ xs, H a = some (.lst xs) ∧ Paired (ItAt H ad S) xs its
  | .dk kvs => ∃ ps, H a = some (.dK ps) ∧ Paired (KvR (ItAt H ad S)) ps kvs
  | .dt kvs => ∃ ps, H a = some (.dT ps) ∧ Paired (KvR (ItAt H ad S)) ps kvs
  | .mx kvs => ∃ ps bs, H a = some (MxO P w a ps bs) ∧ KeysAt H ps bs ∧ HasT ps ∧ Paired (KvR (ItAt H ad S)) ps kvs
  | .ins C fs => ∃ dx ps, H a = some (.ins C dx ps) ∧ Paired (KvR (ItAt H ad S)) ps fs
  | .any => ∃ o, H a = some o ∧ NoTup o
  | .sw b => (∃ o, H a = some o ∧ NoTup o) ∧ TupA H b [.str "switch"]
  | .xo C => ∃ t, H a = some (XoO C a t) ∧ H t = some (.tup [])
/-- the store stands in the heap, its cells at ad -/
structure Rep (P : Program) (w : World) (H : Hp) (ad : L → Addr) (S : Sto) : Prop where
  at_ : ∀ c e, S c = some e → CeAt P w H ad S (ad c) e
  inj : ∀ c c', S c ≠ none → S c' ≠ none → ad c = ad c' → c = c'
  tm : ∀ p, ad (.t p) = p
/-- from here to there: the tuples stand, the cells stay where they are -/
structure Nx (H : Hp) (ad : L → Addr) (S : Sto) (H' : Hp) (ad' : L → Addr) (S' : Sto) : Prop where
  tk : Tk H H'
  st : ∀ c, S c ≠ none → ad' c = ad c ∧ S' c ≠ none
theorem Nx.refl (H : Hp) (ad : L → Addr) (S : Sto) : Nx H ad S H ad S := ⟨Tk.refl H, fun _ h => ⟨rfl, h⟩⟩
theorem Nx.trans {H H1 H2 : Hp} {ad ad1 ad2 : L → Addr} {S S1 S2 : Sto} (x : Nx H ad S H1 ad1 S1) (y : Nx H1 ad1 S1 H2 ad2 S2) : Nx H ad S H2 ad2 S2 :=
  ⟨x.tk.trans y.tk, fun c h => ⟨(y.st c (x.st c h).2).1.trans (x.st c h).1, (y.st c (x.st c h).2).2⟩⟩
theorem Nx.it {H H' : Hp} {ad ad' : L → Addr} {S S' : Sto} (n : Nx H ad S H' ad' S') {v : V} {it : Im} (h : ItAt H ad S v it) : ItAt H' ad' S' v it := by
  cases it with
  | d x => exact Dt.mono n.tk x h
  | l c => exact ⟨by rw [(n.st c h.2).1]; exact h.1, (n.st c h.2).2⟩
  | a p => exact h
theorem CeAt.keep {P : Program} {w : World} {H H' : Hp} {ad ad' : L → Addr} {S S' : Sto} {a : Addr} {e : Ce} (n : Nx H ad S H' ad' S') (ha : H' a = H a) (h : CeAt P w H ad S a e) : CeAt P w H' ad' S' a e := by
  cases e with
  | lst its =>
    obtain ⟨xs, h1, h2⟩ := h
    exact ⟨xs, ha.trans h1, pr_map h2 fun _ _ q => n.it q⟩
  | dk kvs =>
    obtain ⟨xs, h1, h2⟩ := h
    exact ⟨xs, ha.trans h1, pr_map h2 fun _ _ q => ⟨q.1, n.it q.2⟩⟩
  | dt kvs =>
    obtain ⟨xs, h1, h2⟩ := h
    exact ⟨xs, ha.trans h1, pr_map h2 fun _ _ q => ⟨q.1, n.it q.2⟩⟩
  | mx kvs =>
    obtain ⟨xs, bs, h1, h2, h3, h4⟩ := h
    exact ⟨xs, bs, ha.trans h1, fun p hp ks e => n.tk _ _ (h2 p hp ks e), h3, pr_map h4 fun _ _ q => ⟨q.1, n.it q.2⟩⟩
  | ins C fs =>
    obtain ⟨dx, xs, h1, h2⟩ := h
    exact ⟨dx, xs, ha.trans h1, pr_map h2 fun _ _ q => ⟨q.1, n.it q.2⟩⟩
  | any =>
    obtain ⟨o, h1, h2⟩ := h
    exact ⟨o, ha.trans h1, h2⟩
  | sw b =>
    obtain ⟨⟨o, h1, h2⟩, h3⟩ := h
    exact ⟨⟨o, ha.trans h1, h2⟩, n.tk _ _ h3⟩
  | xo C =>
    obtain ⟨t, h1, h2⟩ := h
    refine ⟨t, ha.trans h1, ?_⟩
    rcases n.tk t [] (.inl h2) with q | ⟨q, _⟩
    · exact q
    · cases q
theorem CeAt.obj {P : Program} {w : World} {H : Hp} {ad : L → Addr} {S : Sto} {a : Addr} {e : Ce} (h : CeAt P w H ad S a e) : ∃ o, H a = some o ∧ NoTup o := by
  cases e with
  | lst its =>
    obtain ⟨xs, h1, _⟩ := h
    exact ⟨_, h1, (fun _ z => by cases z), fun _ _ z => by cases z⟩
  | dk kvs =>
    obtain ⟨xs, h1, _⟩ := h
    exact ⟨_, h1, (fun _ z => by cases z), fun _ _ z => by cases z⟩
  | dt kvs =>
    obtain ⟨xs, h1, _⟩ := h
    exact ⟨_, h1, (fun _ z => by cases z), fun _ _ z => by cases z⟩
  | mx kvs =>
    obtain ⟨xs, bs, h1, _⟩ := h
    exact ⟨_, h1, (fun _ z => by unfold MxO at z; cases z), fun _ _ z => by unfold MxO at z; cases z⟩
  | ins C fs =>
    obtain ⟨dx, xs, h1, _⟩ := h
    exact ⟨_, h1, (fun _ z => by cases z), fun _ _ z => by cases z⟩
  | any => exact h
  | sw b => exact h.1
  | xo C =>
    obtain ⟨t, h1, _⟩ := h
    exact ⟨_, h1, xo_notup⟩
section
variable {P : Program} {w : World} {H : Hp} {ad : L → Addr} {S : Sto}
theorem Rep.obj (R : Rep P w H ad S) {c : L} (h : S c ≠ none) : ∃ o, H (ad c) = some o ∧ NoTup o := by
  obtain ⟨e, he⟩ := Option.ne_none_iff_exists'.mp h
  exact (R.at_ c e he).obj
theorem Rep.ne (R : Rep P w H ad S) {c : L} (h : S c ≠ none) {p : Addr} (hp : H p = none) : ad c ≠ p := by
  obtain ⟨o, ho, _⟩ := R.obj h
  exact ne_of_none ho hp
/-- a new object that is no cell -/
theorem Rep.tmp (R : Rep P w H ad S) {p : Addr} {o : HO} (hp : H p = none) : Rep P w (upd H p o) ad S ∧ Nx H ad S (upd H p o) ad S := by
  have n : Nx H ad S (upd H p o) ad S := ⟨Tk.new hp, fun _ h => ⟨rfl, h⟩⟩
  exact ⟨⟨fun c e h => (R.at_ c e h).keep n (upd_ne (R.ne (by rw [h]; exact fun z => nomatch z) hp)), R.inj, R.tm⟩, n⟩
/-- a cell is written -/
theorem Rep.write (R : Rep P w H ad S) {c : L} (hc : S c ≠ none) {o : HO} {e : Ce} (he : CeAt P w (upd H (ad c) o) ad (S.put c e) (ad c) e) :
    Rep P w (upd H (ad c) o) ad (S.put c e) ∧ Nx H ad S (upd H (ad c) o) ad (S.put c e) := by
  obtain ⟨u, hu, hn⟩ := R.obj hc
  have n : Nx H ad S (upd H (ad c) o) ad (S.put c e) := ⟨Tk.at_ hu hn.1 hn.2, fun _ h => ⟨rfl, put_dom h⟩⟩
  have dom : ∀ x, S.put c e x ≠ none → S x ≠ none := by
    intro x hx
    by_cases q : x = c
    · subst q
      exact hc
    · rw [put_ne q] at hx
      exact hx
  refine ⟨⟨fun x u h => ?_, fun x y hx hy => R.inj x y (dom x hx) (dom y hy), R.tm⟩, n⟩
  by_cases q : x = c
  · subst q
    rw [put_same] at h
    have := Option.some.inj h
    subst this
    exact he
  · rw [put_ne q] at h
    have hx : S x ≠ none := by rw [h]; exact fun z => nomatch z
    exact (R.at_ x u h).keep n (upd_ne fun z => q (R.inj x c hx hc z))
def adU (ad : L → Addr) (c : L) (p : Addr) : L → Addr := fun x => if x = c then p else ad x
theorem adU_same {c : L} {p : Addr} : adU ad c p c = p := if_pos rfl
theorem adU_ne {c x : L} {p : Addr} (h : x ≠ c) : adU ad c p x = ad x := if_neg h
/-- a new cell -/
theorem Rep.new (R : Rep P w H ad S) {c : L} (hc : S c = none) (ht : ∀ q, c ≠ .t q) {p : Addr} (hp : H p = none) {o : HO} {e : Ce} (he : CeAt P w (upd H p o) (adU ad c p) (S.put c e) p e) :
    Rep P w (upd H p o) (adU ad c p) (S.put c e) ∧ Nx H ad S (upd H p o) (adU ad c p) (S.put c e) := by
  have ne : ∀ x, S x ≠ none → x ≠ c := fun x h z => by
    subst z
    exact h hc
  have n : Nx H ad S (upd H p o) (adU ad c p) (S.put c e) := ⟨Tk.new hp, fun x h => ⟨adU_ne (ne x h), put_dom h⟩⟩
  refine ⟨⟨fun x u h => ?_, fun x y hx hy z => ?_, fun q => ?_⟩, n⟩
  · by_cases q : x = c
    · subst q
      rw [put_same] at h
      have := Option.some.inj h
      subst this
      rw [adU_same]
      exact he
    · rw [put_ne q] at h
      have hx : S x ≠ none := by rw [h]; exact fun z => nomatch z
      rw [adU_ne q]
      exact (R.at_ x u h).keep n (upd_ne (R.ne hx hp))
  · by_cases q : x = c
    · by_cases r : y = c
      · exact q.trans r.symm
      · rw [put_ne r] at hy
        subst q
        rw [adU_same, adU_ne r] at z
        exact (R.ne hy hp z.symm).elim
    · rw [put_ne q] at hx
      by_cases r : y = c
      · subst r
        rw [adU_same, adU_ne q] at z
        exact (R.ne hx hp z).elim
      · rw [put_ne r] at hy
        rw [adU_ne q, adU_ne r] at z
        exact R.inj x y hx hy z
  · rw [adU_ne (ht q).symm]
    exact R.tm q
/-- a new cell of no name: its address is its name -/
theorem Rep.newT (R : Rep P w H ad S) {p : Addr} (hp : H p = none) {o : HO} {e : Ce} (he : CeAt P w (upd H p o) ad (S.put (.t p) e) p e) :
    Rep P w (upd H p o) ad (S.put (.t p) e) ∧ Nx H ad S (upd H p o) ad (S.put (.t p) e) ∧ S (.t p) = none := by
  have free : S (.t p) = none := by
    cases q : S (.t p) with
    | none => rfl
    | some u => exact (R.ne (c := .t p) (by rw [q]; exact fun z => nomatch z) hp (R.tm p)).elim
  have ne : ∀ x, S x ≠ none → x ≠ .t p := fun x h z => by
    subst z
    exact h free
  have n : Nx H ad S (upd H p o) ad (S.put (.t p) e) := ⟨Tk.new hp, fun x h => ⟨rfl, put_dom h⟩⟩
  refine ⟨⟨fun x u h => ?_, fun x y hx hy z => ?_, R.tm⟩, n, free⟩
  · by_cases q : x = .t p
    · subst q
      rw [put_same] at h
      have := Option.some.inj h
      subst this
      rw [R.tm]
      exact he
    · rw [put_ne q] at h
      have hx : S x ≠ none := by rw [h]; exact fun z => nomatch z
      exact (R.at_ x u h).keep n (upd_ne (R.ne hx hp))
  · by_cases q : x = .t p
    · by_cases r : y = .t p
      · exact q.trans r.symm
      · rw [put_ne r] at hy
        subst q
        rw [R.tm] at z
        exact (R.ne hy hp z.symm).elim
    · rw [put_ne q] at hx
      by_cases r : y = .t p
      · subst r
        rw [R.tm] at z
        exact (R.ne hx hp z).elim
      · rw [put_ne r] at hy
        exact R.inj x y hx hy z
end
end
end So
end
section
set_option Elab.async false
set_option linter.all false
set_option maxRecDepth 100000
set_option maxHeartbeats 1000000
/-! Exceptions without arguments in the air: besides class and dict it is kept where the empty tuple of their arguments stands. -/
namespace LT
open PySem PySem.Spec PyProof.Rows L2
def Arg0 (t : Addr) (o : Obj) : Prop := ∀ ws : Array Value, o.data = .fields ws → ws[0]? = some (.ref t)
theorem arg0_steady {t : Addr} : PXN.Steady1 (Arg0 t) := by
  rintro ⟨oc, od, dt, sl⟩ v hz ws e
  cases dt with
  | fields w0 =>
    obtain rfl : w0.setIfInBounds 1 v = ws := Data.fields.inj e
    have q := hz w0 rfl
    simpa [Array.getElem?_setIfInBounds] using q
  | _ => first | exact Data.noConfusion e | cases e
/-- class, dict, the place of the arguments -/
def Zt (cls : Value) (d : Option Addr) (t : Addr) : Obj → Prop := fun o => (Zc cls d o) ∧ Arg0 t o
theorem zt_steady {cls : Value} {d : Option Addr} {t : Addr} : PXN.Steady1 (Zt cls d t) := fun o v z => ⟨⟨PXN.steady_cls o v z.1.1, PXN.steady_dict o v z.1.2⟩, arg0_steady o v z.2⟩
/-- the air of X -/
structure Air (X : Cx) (W : WX) (a : Addr) (s' : Shared) (t : Addr) (G : Heap) (s1 : Shared) (pins : List (Addr × Obj)) (σ : L2.St) (H : Hp) (cls : Value) (d : Option Addr) : Prop where
  inv : Inv X pins σ H s1
  grd : ∀ b o, s1.heap.get? b = some o → b ∉ frs X.stack → G.get? b = some o
  upt : s1.heap.UpToSlots s'.heap
  sky : Sky G X.stack a (Zt cls d t) X.env.locals s'.heap
  off : H a = none
  arg : H t = some (.tup [])
  os : s'.os = s1.os
  bare : AllBare s'.gens
  wish : W cls d σ H
def XE (X : Cx) (W : WX) (u : Value) (s' : Shared) : Prop := ∃ a t G s1 pins σ H cls d, u = .ref a ∧ Air X W a s' t G s1 pins σ H cls d
def Takes (X : Cx) (W : WX) : Prop := ∀ u s', XE X W u s' → X.xe u s'
theorem takes0 {X : Cx} : Takes X fun _ _ _ _ => False := fun _ _ ⟨_, _, _, _, _, _, _, _, _, _, r⟩ => r.wish.elim
/-- a call has let it out -/
structure Out (P : Program) (w : World) (outer : List Env) (H : Hp) (s : Shared) (E : XK) (a : Addr) (s' : Shared) (t : Addr) (G : Heap) (H1 : Hp) (cls : Value) (d : Option Addr) : Prop where
  fly : HandSPX.FlyingZ G outer a (Zt cls d t) s'.heap
  hok : HOk P w H1 G
  ub : UB (frs outer) H H1 s.heap G s'.heap
  off : H1 a = none
  arg : H1 t = some (.tup [])
  os : s'.os = s.os
  bare : AllBare s'.gens
  wish : E cls d H1
def CX (P : Program) (w : World) (outer : List Env) (H : Hp) (s : Shared) (E : XK) (u : Value) (s' : Shared) : Prop := ∃ a t G H1 cls d, u = .ref a ∧ Out P w outer H s E a s' t G H1 cls d
section
variable {X : Cx} {pins : List (Addr × Obj)} {σ : L2.St} {H : Hp} {s s1 s' : Shared} {G : Heap} {W : WX} {E : XK}
theorem XE.of_call (I : Inv X pins σ H s) (hw : ∀ c d H1, E c d H1 → W c d σ H1) {u : Value} (z : CX X.prog X.w X.stack H s E u s') : XE X W u s' := by
  obtain ⟨a, t, G, H1, cls, d, rfl, out⟩ := z
  obtain ⟨T, t1, t2⟩ := restrict s'.heap fun b => (G.get? b).isSome || decide (b ∈ frs X.stack)
  have stays : G.StaysIn s'.heap := out.fly.1
  have inT : ∀ b, ((G.get? b).isSome = true ∨ b ∈ frs X.stack) → T.get? b = s'.heap.get? b := fun b hb => t1 b (by simpa [Bool.or_eq_true] using hb)
  have sub : ∀ b o, G.get? b = some o → T.get? b = some o := fun b o e => (inT b (.inl (by rw [e]; rfl))).trans (stays b o e)
  have back : ∀ b o, T.get? b = some o → s'.heap.get? b = some o ∧ ((G.get? b).isSome = true ∨ b ∈ frs X.stack) := by
    intro b o e
    by_cases q : (G.get? b).isSome = true ∨ b ∈ frs X.stack
    · exact ⟨(inT b q).symm.trans e, q⟩
    · have q' : ((G.get? b).isSome || decide (b ∈ frs X.stack)) = false := by
        cases z : ((G.get? b).isSome || decide (b ∈ frs X.stack)) with
        | false => rfl
        | true => exact (q (by simpa [Bool.or_eq_true] using z)).elim
      rw [t2 b q'] at e
      cases e
  have ub := out.ub
  have un : Un (frs X.stack) [] H H1 s.heap T := {
    keep := fun b o e n hb _ => sub b o (ub.keep b o e n hb)
    slot := fun b o e n hb _ => by
      obtain ⟨sl, q⟩ := ub.slot b o e hb
      exact ⟨sl, (inT b (.inr hb)).trans q⟩
    free := fun b o e n _ => ub.free b o e n
    there := fun b o e _ => by
      by_cases hb : b ∈ frs X.stack
      · obtain ⟨sl, q⟩ := ub.slot b o e hb
        exact ⟨_, (inT b (.inr hb)).trans q⟩
      · obtain ⟨o2, q⟩ := ub.there b o e hb
        exact ⟨o2, sub b o2 q⟩
    tups := ub.tups
    frzs := ub.frzs
    tbls := ub.tbls }
  refine ⟨a, t, G, { s with heap := T, gens := s'.gens, drawn := s'.drawn, toks := s'.toks }, pins, σ, H1, cls, d, rfl, ?_⟩
  refine { inv := I.call (ch := []) un (out.hok.kept sub) out.bare (fun _ z => nomatch z), grd := fun b o e hb => ?_, upt := Heap.UpToSlots.of_keeps fun b o e => (back b o e).1, sky := .inr (.inl out.fly), off := out.off, arg := out.arg, os := out.os, bare := out.bare, wish := hw _ _ _ out.wish }
  obtain ⟨e1, q⟩ := back b o e
  rcases q with q | q
  · obtain ⟨o2, e2⟩ := Option.isSome_iff_exists.mp q
    have e3 := stays b o2 e2
    rw [e1] at e3
    rw [e2, e3]
  · exact (hb q).elim
/-- it is made here -/
theorem XE.new {a t : Addr} {oe : Obj} {ws : Array Value} {cls : Value} {d : Option Addr} (I : Inv X pins σ H s1) (k : ∀ b o, s1.heap.get? b = some o → s'.heap.get? b = some o) (fresh : s1.heap.get? a = none) (there : s'.heap.get? a = some oe)
    (z : Zt cls d t oe) (dt : oe.data = .fields ws) (w1 : ws[1]? = some .none) (off : H a = none) (arg : H t = some (.tup [])) (os : s'.os = s1.os) (bare : AllBare s'.gens) (wish : W cls d σ H) : XE X W (.ref a) s' := by
  have gone : (PySem.W.hideAll s1.heap (frs X.stack)).get? a = none := by
    cases q : (PySem.W.hideAll s1.heap (frs X.stack)).get? a with
    | none => rfl
    | some o2 =>
      have e := PySem.W.of_hideAll _ q
      rw [fresh] at e
      cases e
  have frames : s'.heap.FunFrames (PySem.W.hideAll s1.heap (frs X.stack)) X.stack := Heap.FunFrames.of_keeps (fun b o e _ => ⟨o, k b o e, rfl⟩) (funFrames_none I.stack fun b hb => PySem.W.hideAll_none _ hb)
  exact ⟨a, t, PySem.W.hideAll s1.heap (frs X.stack), s1, pins, σ, H, cls, d, rfl, { inv := I, grd := fun b o e hb => PySem.W.hideAll_get _ e hb, upt := Heap.UpToSlots.of_keeps k, sky := .inl ⟨fun b o e => k b o (PySem.W.of_hideAll _ e), gone, frames, oe, ws, there, z, dt, w1⟩, off := off, arg := arg, os := os, bare := bare, wish := wish }⟩
/-- it leaves the def -/
theorem XE.leave (hs : X.stack = X.env :: X.outer) (hf : X.env.frame = some X.env.locals) (hex : X.ex = []) {E1 : Value → Shared → Prop} (hw : ∀ c d τ H, W c d τ H → E c d H) {u : Value} (x : XE X W u s') :
    wpAny (model X.prog X.w) X.A (leaving X.env u) (fun _ s2 => CX X.prog X.w X.outer X.H_0 X.s_0 E u s2) E1 s' := by
  obtain ⟨a, t, G, s1, pins, σ, H, cls, d, rfl, r⟩ := x
  have I := r.inv
  have fr : X.A.frames = some (X.env :: X.outer) := by rw [I.ok.frames, hs]
  have none_ex : ∀ b, b ∉ X.ex := fun b hb => by
    rw [hex] at hb
    cases hb
  have notIn : ∀ b o, X.s_0.heap.get? b = some o → b ∉ X.fs → b ∉ frs X.stack := by
    intro b o e hb hm
    rcases List.mem_cons.mp (I.stkSub b hm) with z | z
    · have l1 := Heap.lt_size e
      rw [z] at l1
      have l2 := I.ok.above
      exact (Nat.lt_irrefl _ (Nat.lt_of_lt_of_le l1 l2)).elim
    · exact hb z
  have fin : ∀ h2, HandSPX.FlyingZ G X.outer a (Zt cls d t) h2 → s'.heap.UpToSlots h2 → CX X.prog X.w X.outer X.H_0 X.s_0 E (.ref a) { s' with heap := h2 } := by
    intro h2 fl up2
    have bs := I.base
    refine ⟨a, t, G, H, cls, d, rfl, { fly := fl, hok := I.inGround r.grd, ub := ?_, off := r.off, arg := r.arg, os := r.os.trans I.os, bare := r.bare, wish := hw _ _ _ _ r.wish }⟩
    refine ⟨fun b o e n hb => r.grd b o (bs.keep b o e n hb (none_ex b)) (notIn b o e hb), ?_, fun b o e n => bs.free b o e n (none_ex b), ?_, bs.tups, bs.frzs, bs.tbls⟩
    · intro b o e hb
      obtain ⟨_, o0, e0, nf⟩ := I.ok.funs.mem hb
      obtain rfl : o = o0 := Option.some.inj (e.symm.trans e0)
      obtain ⟨sl1, q1⟩ := bs.slot b o e (I.ok.frf b hb) hb (none_ex b)
      obtain ⟨sl2, q2⟩ := r.upt b _ q1 nf
      obtain ⟨sl3, q3⟩ := up2 b _ q2 nf
      exact ⟨sl3, q3⟩
    · intro b o e hb
      obtain ⟨o2, q⟩ := bs.there b o e (none_ex b)
      exact ⟨o2, r.grd b o2 q (notIn b o e hb)⟩
  have sky := r.sky
  rw [hs] at sky
  rcases sky with ⟨g1, g2, g3, oe, ws, g4, g5, g6, g7⟩ | fl | held
  · exact PXN.leaving_firstZ zt_steady fr g3 hf g4 g1 g2 g6 g7 g5 fin
  · exact PXN.leaves_onZ zt_steady fr hf fl fin
  · exact HandSPX.leaves_heldZ hf held fin
theorem takes_of (hs : X.stack = X.env :: X.outer) (hf : X.env.frame = some X.env.locals) (hex : X.ex = []) {E1 : Value → Shared → Prop}
    (hx : X.xe = fun e s' => wpAny (model X.prog X.w) X.A (leaving X.env e) (fun _ s2 => CX X.prog X.w X.outer X.H_0 X.s_0 E e s2) E1 s') : Takes X (fun c d _ H => E c d H) := by
  intro u s' x
  rw [hx]
  exact x.leave (W := fun c d _ H => E c d H) (E := E) hs hf hex fun _ _ _ _ z => z
theorem passes_call (tk : Takes X W) (hw : ∀ c d σ H, E c d H → W c d σ H) : ∀ (pins : List (Addr × Obj)) (σ : L2.St) (H : Hp) (s : Shared) (e : Value) (s' : Shared), Inv X pins σ H s → CX X.prog X.w X.stack H s E e s' → X.xe e s' :=
  fun _ σ _ _ e s' I c => tk e s' (XE.of_call I (fun c d H1 => hw c d σ H1) c)
theorem passAt (tk : Takes X W) (σ : L2.St) : PassesAt (CX X.prog X.w) X σ (WE W σ) := fun _ _ _ e s' I c => tk e s' (XE.of_call I (fun _ _ _ z => z) c)
end
/-! ### raise -/
/-- an expression that makes one -/
structure Made (X : Cx) (pins : List (Addr × Obj)) (σ : L2.St) (Q : XK) (a : Addr) (s' : Shared) (t : Addr) (oe : Obj) (ws : Array Value) (s1 : Shared) (H1 : Hp) (cls : Value) : Prop where
  inv : Inv X pins σ H1 s1
  kp : ∀ b o, s1.heap.get? b = some o → s'.heap.get? b = some o
  fresh : s1.heap.get? a = none
  there : s'.heap.get? a = some oe
  z : Zt cls none t oe
  dt : oe.data = .fields ws
  w1 : ws[1]? = some .none
  off : H1 a = none
  arg : H1 t = some (.tup [])
  os : s'.os = s1.os
  bare : AllBare s'.gens
  rs : Raises X cls
  q : Q cls none H1
def PMk (X : Cx) (e : Expr) (t : L2.St → Hp → XK → Prop) : Prop := ∀ (pins : List (Addr × Obj)) (s : Shared) (σ : L2.St) (H : Hp) (Q : XK), Inv X pins σ H s → t σ H Q →
  wpAny (model X.prog X.w) X.A (eval e X.env) (fun u s' => ∃ a t oe ws s1 H1 cls, u = .ref a ∧ Made X pins σ Q a s' t oe ws s1 H1 cls) X.xe s
theorem ps_raise {X : Cx} {W : WX} {e : Expr} {t : L2.St → Hp → XK → Prop} {pos : Pos} (hc : X.calm = true) (tk : Takes X W) (he : PMk X e t) : PS X (.Raise (some e) none pos) (fun _ σ H => t σ H fun cls d H1 => W cls d σ H1) := by
  constructor
  intro pins s σ H D I h
  show wpAny _ _ (do standAt pos; raiseStmt X.env (some (do let v ← eval e X.env; standAt pos; pure v)) none) _ _ _
  refine wpAny_bind (wpAny_standAt (raise_made (I.ok.hd hc) (wpAny_bind (wpAny_mono (he pins s σ H _ I h) (fun u s2 hu => wpAny_bind (wpAny_standAt (wpAny_pure ?_))) fun _ _ x => x))))
  obtain ⟨a, t, oe, ws, s1, H1, cls, rfl, m⟩ := hu
  obtain ⟨r1, r2⟩ := m.rs (model X.prog X.w) s2.heap (m.inv.kIn.keeps m.kp)
  exact ⟨a, oe, ws, cls, rfl, m.there, m.z.1.1, m.dt, m.w1, r1, r2, tk _ _ (XE.new m.inv m.kp m.fresh m.there m.z m.dt m.w1 m.off m.arg m.os m.bare m.q)⟩
end LT
namespace LT
open PySem PySem.Spec PyProof.Rows L2
/-- X(), the arguments' tuple tracked -/
theorem pmk0 {X : Cx} {C : Addr} {bmB : List Value} {B newId initId : String} {x : Str} {p pos : Pos} (F : ExcBaseFacts B newId initId bmB) (q : PySem.W.excIn X.K C bmB newId = true) (gC : X.mg x = some (.ref C)) (kC : PySem.W.keepIn X.K (.ref C) = true) (r : Raises X (.ref C)) (hg : Gl X x)
    (hdb : (x == ("__debug__" : Str)) = false := by decide) : PMk X (.Call (.Name x p) [] [] pos) (fun _ H Q => ∀ t, H t = none → Q (.ref C) none (upd H t (.tup []))) := by
  intro pins s σ H Q I h
  refine wpAny_Call_Name_kw (ld_glob I hg gC ?_ hdb)
  refine PySem.W.callWith_K0 I.kIn kC ?_
  show wpAny _ _ (call (.ref C) []) _ _ _
  obtain ⟨bm, N, nm, qn, bs, hdct, sn, sub, ab, col, dd, k0, k1, k2, k3, k5, mN, hC, hN, hni, T⟩ := exc_obj I.kIn q
  refine wpAny_call_exc_subT F T hC hN hni (fun h1 e hm => ?_) (by show 0 ≤ sizeLine; omega)
  obtain ⟨t, he, ht0, ht⟩ := hm.there
  have off := I.hok.gone hm.new
  have offt := I.hok.gone ht0
  have net : e ≠ t := by
    rintro rfl
    rw [he] at ht
    cases ht
  refine ⟨e, t, { cls := Value.ref C, data := .fields #[.ref t, .none, .none, .none, .bool false, .none] }, #[.ref t, .none, .none, .none, .bool false, .none], { s with heap := PySem.W.hideAll h1 [e] }, upd H t (.tup []), .ref C, rfl, ?_⟩
  have keepH : ∀ b u, s.heap.get? b = some u → (PySem.W.hideAll h1 [e]).get? b = some u := by
    intro b u hb
    refine PySem.W.hideAll_get _ (hm.keeps b u hb) ?_
    intro hm2
    have := List.mem_singleton.mp hm2
    subst this
    rw [hm.new] at hb
    cases hb
  have tH : (PySem.W.hideAll h1 [e]).get? t = some { cls := .type "tuple", data := .seq ([] : List Value).toArray } := PySem.W.hideAll_get _ ht fun hm2 => net (List.mem_singleton.mp hm2).symm
  exact { inv := I.laidN keepH ht0 offt ⟨Nat.zero_le _, [], .nil, _, tH, rfl, _, rfl⟩
          kp := fun b o hb => PySem.W.of_hideAll _ hb
          fresh := PySem.W.hideAll_none _ (List.mem_singleton.mpr rfl)
          there := he
          z := ⟨⟨rfl, rfl⟩, fun ws ew => by cases ew; rfl⟩
          dt := rfl
          w1 := rfl
          off := by rw [upd_ne net]; exact off
          arg := upd_same
          os := rfl
          bare := I.bare
          rs := r
          q := h t offt }
end LT
namespace LT
open PySem PySem.Spec PyProof.Rows L2
/-! ### try .. except X as n -/
def eNm (i : Nat) (D : Ends) : Ends := { nx := fun σ H => D.nx (σ.set i none) H, rt := D.rt, bk := fun σ H => D.bk (σ.set i none) H, ct := fun σ H => D.ct (σ.set i none) H }
def wAsT (K : PySem.W.Frag) (c : Value) (i : Nat) (ts : Addr → Addr → Value → Option Addr → TS) (Wout : WX) (D : Ends) : WX := fun cls d σ H =>
  ∃ b, PySem.W.exmOne K cls c = some b ∧ (b = true → ∀ a t, H a = none → H t = some (.tup []) → ts a t cls d (eNm i D) (σ.set i (some (.ref a))) H) ∧ (b = false → Wout cls d σ H)
section
variable {X : Cx} {x n : Str} {c : Value} {i : Nat} {body suite : List Stmt} {b0 : Stmt} {np pos pos' : Pos} {tb : WX → TS} {ts : Addr → Addr → Value → Option Addr → TS} {Wout : WX}
theorem ps_tryT (hs : X.stack = X.env :: X.outer) (hf : X.env.frame = some X.env.locals) (hN : X.N.Nodup) (hi : X.N[i]? = some n) (hln : X.env.kindOf n = some .local) (hc : Names X x c) (tk : Takes X Wout)
    (hb : ∀ (W : WX) (pn : List (Addr × Obj)) (xe : Value → Shared → Prop), Takes (X.tr pn xe) W → PassesOwn (model X.prog X.w) X.A X.env xe → PSs (X.tr pn xe) body (tb W))
    (hsu : ∀ (a t : Addr) (oe : Obj) (cls : Value) (d : Option Addr) (pn : List (Addr × Obj)), Zt cls d t oe → (∃ ws, oe.data = .fields ws) → PSs (X.suite a ((a, oe) :: pn)) (b0 :: suite) (ts a t cls d)) :
    PS X (.Try body [.ExceptHandler (some (.Name x np)) (some n) (b0 :: suite) pos'] [] [] pos) (fun D σ H => tb (wAsT X.K c i ts Wout D) D σ H) := by
  constructor
  intro pins s σ H D I h
  have ok := I.ok
  have fr : X.A.frames = some (X.env :: X.outer) := by rw [ok.frames, hs]
  refine wpAny_Try_except ?_
  have body := hb (wAsT X.K c i ts Wout D) (X.pn ++ pins) (fun e s1 => wpAny (model X.prog X.w) X.A (noteFrame e X.env) (fun _ s2 => wpAny (model X.prog X.w) X.A (setFlight e none) (fun _ s3 =>
    wpAny (model X.prog X.w) X.A (handleBy e X.env [.ExceptHandler (some (.Name x np)) (some n) (b0 :: suite) pos']) (SP X pins D) X.xe s3) X.xe s2) X.xe s1) ?_ PassesOwn.looking
  · refine wpAny_mono (body.run [] s σ H D (I.toTry _) h) ?_ fun _ _ z => z
    intro f s1 z
    cases f with
    | next =>
      obtain ⟨σ1, H1, J, q⟩ := z
      exact wpAny_execs_nil ⟨σ1, H1, J.ofTry ok, q⟩
    | brk =>
      obtain ⟨σ1, H1, J, q⟩ := z
      exact ⟨σ1, H1, J.ofTry ok, q⟩
    | cont =>
      obtain ⟨σ1, H1, J, q⟩ := z
      exact ⟨σ1, H1, J.ofTry ok, q⟩
    | ret u =>
      obtain ⟨v, σ1, H1, J, r, q⟩ := z
      exact ⟨v, σ1, H1, J.ofTry ok, r, q⟩
  rintro u s' ⟨a, t, G, s1, pins1, σ1, H1, cls, d, rfl, r⟩
  obtain ⟨b, hb1, yes, no⟩ := r.wish
  have J : Inv X pins σ1 H1 s1 := r.inv.ofTry ok
  have sky : Sky G (X.env :: X.outer) a (Zt cls d t) X.env.locals s'.heap := by
    have z : Sky G X.stack a (Zt cls d t) X.env.locals s'.heap := r.sky
    rw [hs] at z
    exact z
  show wpAny (model X.prog X.w) X.A (noteFrame (.ref a) X.env) _ _ _
  refine L2N.Sky.land zt_steady fr hf sky fun h3 fl3 up3 => ?_
  have up03 := r.upt.trans up3
  have J3 : Inv X pins σ1 H1 { s' with heap := h3 } := J.landed r.grd fl3.1 up03 r.os r.bare
  obtain ⟨oe3, ws3, at3, z3, d3⟩ := fl3.there
  -- the exception is no frame
  have noFrame : a ∉ frs (X.env :: X.outer) := by
    intro hm
    obtain ⟨_, o2, e2, nf⟩ := fl3.2.2.1.mem hm
    rw [at3] at e2
    cases e2
    exact nf _ d3
  have nL : a ≠ X.env.locals := by
    rintro rfl
    exact noFrame (List.mem_filterMap.mpr ⟨X.env, List.mem_cons_self, hf⟩)
  have nF : a ∉ X.fs := by
    intro hm
    obtain ⟨e, he, q⟩ := List.mem_filterMap.mp hm
    exact noFrame (List.mem_filterMap.mpr ⟨e, List.mem_cons_of_mem _ he, q⟩)
  have S3 := J3.suite at3 d3 r.off nL nF
  refine wpAny_handleBy_cons (codeAny_handlers_test ?_) (by intro q; cases q)
  have isOf : PySem.W.Looks (model X.prog X.w) h3 (typeOf (.ref a)) cls := fun A Q E s k q => wpAny_typeOf_ref (k _ _ at3) (by rw [z3.1.1]; exact q)
  have answer := PySem.W.exm_one (M := model X.prog X.w) J3.kIn isOf hb1
  have named : ∀ {Q : Value → Shared → Prop} {E : Value → Shared → Prop}, Q c { s' with heap := h3 } → wpAny (model X.prog X.w) (X.A.mark (some (.ref a))) (eval (.Name x np) X.env) Q E { s' with heap := h3 } := by
    intro Q E q
    obtain ⟨hg, hdb, hm | ⟨hm, hv, hn⟩⟩ := hc
    · exact ld_glob (X := X.suite a ((a, oe3) :: (X.pn ++ pins))) S3 hg hm q hdb
    · exact ld_blt (X := X.suite a ((a, oe3) :: (X.pn ++ pins))) S3 hg hm hv q hn hdb
  refine named (answer.here ?_)
  cases b with
  | false =>
    show wpAny _ X.A (handleBy (.ref a) X.env []) _ _ _
    refine wpAny_handleBy_nil ?_
    obtain ⟨_, _, _, oe, ws, T, _, _, at0, _, dt0, f1, _⟩ := id fl3
    unfold PySem.passOn
    refine wpAny_bind (wpAny_field at0 dt0 f1 ?_)
    rw [if_neg (show ¬ ((Value.ref T == Value.none) = true) from by simp)]
    have fin : wpAny (model X.prog X.w) X.A (setFlight (.ref a) X.env.frame) (fun _ s4 => wpAny (model X.prog X.w) X.A (throw (.ref a) : Sem Flow) (SP X pins D) X.xe s4) X.xe { s' with heap := h3 } := by
      rw [hf]
      refine HandSPX.setFlight_upZ fl3 fun h4 held up4 => wpAny_throw (tk _ _ ⟨a, t, G, s1, pins, σ1, H1, cls, d, rfl, ?_⟩)
      exact { inv := J, grd := r.grd, upt := up03.trans up4, sky := .inr (.inr (by rw [hs]; exact held)), off := r.off, arg := r.arg, os := r.os, bare := r.bare, wish := no rfl }
    first
      | exact wpAny_bind (wpAny_pure (wpAny_bind fin))
      | exact wpAny_bind fin
  | true =>
    refine codeAny_handlers_suite_as ?_
    refine HandSPX.lands_againZ fl3 fun h4 fl4 up4 => ?_
    have J4 : Inv X pins σ1 H1 { s' with heap := h4 } := J.landed r.grd fl4.1 (up03.trans up4) r.os r.bare
    obtain ⟨oe4, ws4, at4, z4, d4⟩ := fl4.there
    have S4 := J4.suite at4 d4 r.off nL nF
    refine store_ok (X := X.suite a ((a, oe4) :: (X.pn ++ pins))) (v := .ref a) S4 hN hi (.inl hln) rfl (fun s5 S5 => ?_) (.inr hln)
    refine wpAny_mono ((hsu a t oe4 cls d (X.pn ++ pins) z4 ⟨_, d4⟩).run [] s5 _ H1 _ S5 (yes rfl a t r.off r.arg)) ?_ (fun _ _ z => False.elim z)
    intro f s6 z
    have bye : ∀ {σ6 : L2.St} {H6 : Hp} {Q : Shared → Prop}, Inv (X.suite a ((a, oe4) :: (X.pn ++ pins))) [] σ6 H6 s6 → (∀ s7, Inv X pins (σ6.set i none) H6 s7 → Q s7) →
        wpAny (model X.prog X.w) X.A (do bindName X.env n .none; unbindBehindTheSuite X.env n pos') (fun _ s7 => Q s7) X.xe s6 := fun {σ6 H6 Q} K6 k => gone_ok (K6.unsuite ok) hN hi hln k
    cases f with
    | next =>
      obtain ⟨σ6, H6, K6, q6⟩ := z
      exact bye K6 fun s7 K7 => ⟨_, _, K7, q6⟩
    | brk =>
      obtain ⟨σ6, H6, K6, q6⟩ := z
      exact bye K6 fun s7 K7 => ⟨_, _, K7, q6⟩
    | cont =>
      obtain ⟨σ6, H6, K6, q6⟩ := z
      exact bye K6 fun s7 K7 => ⟨_, _, K7, q6⟩
    | ret u =>
      obtain ⟨v6, σ6, H6, K6, r6, q6⟩ := z
      exact bye K6 fun s7 K7 => ⟨_, _, _, K7, r6, q6⟩
end
end LT
namespace LT
open PySem PySem.Spec PyProof.Rows L2
theorem passL {X : Cx} : Passes (CX X.prog X.w) X E0 := fun _ _ _ _ _ _ _ z => by
  obtain ⟨_, _, _, _, _, _, _, out⟩ := z
  exact out.wish.elim
theorem okX {P : Program} {w : World} {K : PySem.W.Frag} {mg : Str → Option Value} {base : Heap} {x qual : Str} {st : Stmt} {f : Addr} {fd : FuncData} {N ps : List Str} {k : Nat} {sp : Sp} (F : Fun K x qual st f fd) (S : FnScope N ps (defScope st)) (len : ∀ vs H Q E, sp vs H Q E → vs.length = ps.length)
    (hb : ∀ (cdv : Value) (A : Around) (outer : List Env) (s : Shared) (H : Hp) (vs : List V) (Q : VK) (E : XK), Room k (A.deeper (envOfC qual (defScope st) s.heap.objs.size f cdv)) → sp vs H Q E →
      ∃ t, PSs (cxOf (CX P w) P w K mg base N qual (defScope st) f cdv A outer s H E) (defBody st) t ∧ t { nx := fun _ H' => Q .non H', rt := Q } (L2.start N vs) H) : FnOk P w K mg base (CX P w) (k + 1) f fd ps sp := by
  obtain ⟨oc, od, kV, doc, pm, an, cdv, ct, osl, rfl, lk, hcd⟩ := F.ex
  exact fn_of lk hcd S len fun A outer s H vs Q E hr hsp => hb cdv A outer s H vs Q E hr hsp
/-! ### a caught exception: its class, what str tells of it -/
def IsX (cls : Value) (t : Addr) (p : Addr × Obj) : Prop := Zt cls none t p.2 ∧ ∃ ws, p.2.data = .fields ws
theorem call_isX {X : Cx} {D t : Addr} {p : Addr × Obj} (C : L2.ExcC X.K D) (hp : p ∈ X.pn) (hx : IsX (.ref D) t p) : CallR X (.builtin "isinstance") (rIsE X.K D p.1) := by
  rintro pins s σ H xs us Q I r ⟨c, cv, b, rfl, hcv, e, q⟩
  obtain ⟨u1, u2, rfl, r1, r2⟩ := vals2 r
  obtain rfl := hcv _ r2
  obtain rfl : u1 = Value.ref p.1 := r1
  obtain ⟨a, oc, od, oda, osl⟩ := p
  obtain ⟨⟨⟨z1, z2⟩, _⟩, ws, hw⟩ := hx
  have now := (I.pin _ (List.mem_append_left _ hp)).1
  dsimp only at z1 z2 hw now
  subst z1 z2 hw
  exact PySem.W.kia_one (PySem.W.handS_kitx_exc C.hg C.hk C.hs C.hd C.ha C.hn C.ht C.hm) I.kIn ⟨now, rfl, rfl, trivial⟩ e (fun z => nomatch z) fun tk => ⟨.bl b, H, I.kept (t' := tk) fun _ _ z => z, rfl, q⟩
/-- what the class says of str -/
structure StrC (K : PySem.W.Frag) (D : Addr) : Prop where
  st : PySem.W.findIn K (.ref D) "__str__" = some (some (.builtin "BaseException.__str__"))
  sb : PySem.W.subIn K (.ref D) (.type "BaseException") = some true
theorem tup0_at {P : Program} {w : World} {H : Hp} {h : Heap} {t : Addr} (ok : HOk P w H h) (e : H t = some (.tup [])) : h.TupAt t [] := by
  obtain ⟨_, its, r, o, h1, h2, n, h3⟩ := (show ObjOk P w H h t (.tup []) from ok t _ e)
  cases r
  obtain ⟨oc, od, dt, sl⟩ := o
  dsimp only at h2 h3
  subst h2 h3
  exact ⟨_, n, h1, rfl, rfl⟩
def rStrX (a t : Addr) : List V → Hp → VK → Prop := fun xs H Q => xs = [.ref a] ∧ H t = some (.tup []) ∧ Q (.str Str.empty) H
theorem call_strX {X : Cx} {D t : Addr} {p : Addr × Obj} (hu : X.A.units + 2 < cLine) (C : StrC X.K D) (hp : p ∈ X.pn) (hx : IsX (.ref D) t p) : CallR X (.type "str") (rStrX p.1 t) := by
  rintro pins s σ H xs us Q I r ⟨rfl, ht, q⟩
  obtain ⟨u, rfl, ru⟩ := vals1 r
  obtain rfl : u = Value.ref p.1 := ru
  obtain ⟨⟨⟨z1, z2⟩, z3⟩, ws, hw⟩ := hx
  have now := (I.pin _ (List.mem_append_left _ hp)).1
  exact PySem.P.str_of_C_none (K := X.K) (C := D) (t0 := t) hu ⟨I.kIn, p.2, ws, now, z1, hw, z3 ws hw⟩ (tup0_at I.hok ht) C.st C.sb ⟨.str Str.empty, H, I.tok _, ⟨_, rfl⟩, q⟩
end LT
end
section
set_option Elab.async false
set_option maxRecDepth 100000
set_option maxHeartbeats 1000000
/-! Readings over the store. -/
namespace L3
open PySem PySem.Spec PyProof.Rows L2 Mx So

abbrev St3 := List (Option Im)
abbrev K3 := Im → Sto → Prop
abbrev TE3 := St3 → Sto → K3 → Prop
abbrev TT3 := St3 → Sto → (Bool → Sto → Prop) → Prop
abbrev TA3 := St3 → Sto → (List Im → Sto → Prop) → Prop
abbrev R3 := Im → Im → Sto → K3 → Prop
structure Ends3 where
  nx : St3 → Sto → Prop
  rt : K3
  bk : St3 → Sto → Prop := fun _ _ => False
  ct : St3 → Sto → Prop := fun _ _ => False
abbrev TS3 := Ends3 → St3 → Sto → Prop

abbrev WX3 := Value → St3 → Sto → Prop
/-- what is wished of an exception, over the heap and over the store -/
structure ZZ where
  z : WX
  z3 : WX3

/-! ### slots -/
def OptR (H : Hp) (ad : L → Addr) (S : Sto) : Option V → Option Im → Prop
  | some v, some it => ItAt H ad S v it
  | _, none => True
  | none, some _ => False
abbrev Slt (H : Hp) (ad : L → Addr) (S : Sto) : L2.St → St3 → Prop := Paired (OptR H ad S)
theorem Slt.go {H H' : Hp} {ad ad' : L → Addr} {S S' : Sto} {σ : L2.St} {σi : St3} (s : Slt H ad S σ σi) (n : Nx H ad S H' ad' S') : Slt H' ad' S' σ σi := pr_map s fun x y q => by
  cases y with
  | none => cases x <;> exact True.intro
  | some it => cases x with
    | none => exact q
    | some v => exact n.it q
def AftZ (P : Program) (w : World) (Z : ZZ) (H : Hp) (ad : L → Addr) (S : Sto) : Prop := ∀ c σ' σi' H' ad' S', Rep P w H' ad' S' → Nx H ad S H' ad' S' → Slt H' ad' S' σ' σi' → Z.z3 c σi' S' → Z.z c none σ' H'
theorem AftZ.go {P : Program} {w : World} {Z : ZZ} {H H' : Hp} {ad ad' : L → Addr} {S S' : Sto} (k : AftZ P w Z H ad S) (n : Nx H ad S H' ad' S') : AftZ P w Z H' ad' S' := fun c σ' σi' H2 ad2 S2 r m s q => k c σ' σi' H2 ad2 S2 r (n.trans m) s q
structure Slots (P : Program) (w : World) (Z : ZZ) (H : Hp) (ad : L → Addr) (S : Sto) (σ : L2.St) (σi : St3) : Prop where
  pr : Slt H ad S σ σi
  ax : AftZ P w Z H ad S
section
variable {P : Program} {w : World} {Z : ZZ} {H H' : Hp} {ad ad' : L → Addr} {S S' : Sto} {σ : L2.St} {σi : St3}
theorem Slots.go (s : Slots P w Z H ad S σ σi) (n : Nx H ad S H' ad' S') : Slots P w Z H' ad' S' σ σi := ⟨s.pr.go n, s.ax.go n⟩
theorem Slots.get (s : Slots P w Z H ad S σ σi) {i : Nat} {it : Im} (h : σi[i]? = some (some it)) : ∃ v, σ[i]? = some (some v) ∧ ItAt H ad S v it := by
  obtain ⟨x, h1, h2⟩ := pr_get s.pr h
  cases x with
  | none => exact (show False from h2).elim
  | some v => exact ⟨v, h1, h2⟩
theorem Slots.set (s : Slots P w Z H ad S σ σi) (i : Nat) {v : V} {it : Im} (h : ItAt H ad S v it) : Slots P w Z H ad S (σ.set i (some v)) (σi.set i (some it)) := ⟨pr_set (R := OptR H ad S) (x := some v) (y := some it) h i s.pr, s.ax⟩
theorem Slots.forget (s : Slots P w Z H ad S σ σi) (i : Nat) (x : Option V) : Slots P w Z H ad S (σ.set i x) (σi.set i none) := ⟨pr_set (R := OptR H ad S) (by cases x <;> exact True.intro) i s.pr, s.ax⟩
end

/-! ### what follows -/
section
variable (P : Program) (w : World) (Z : ZZ)
def Aft (H : Hp) (ad : L → Addr) (S : Sto) (Q : VK) (Q3 : K3) : Prop := ∀ v H' ad' S' it, Rep P w H' ad' S' → Nx H ad S H' ad' S' → ItAt H' ad' S' v it → Q3 it S' → Q v H'
def AftT (H : Hp) (ad : L → Addr) (S : Sto) (Q : Bool → Hp → Prop) (Q3 : Bool → Sto → Prop) : Prop := ∀ b H' ad' S', Rep P w H' ad' S' → Nx H ad S H' ad' S' → Q3 b S' → Q b H'
def AftA (H : Hp) (ad : L → Addr) (S : Sto) (Q : List V → Hp → Prop) (Q3 : List Im → Sto → Prop) : Prop := ∀ vs H' ad' S' its, Rep P w H' ad' S' → Nx H ad S H' ad' S' → Paired (ItAt H' ad' S') vs its → Q3 its S' → Q vs H'
def AftN (H : Hp) (ad : L → Addr) (S : Sto) (N : L2.St → Hp → Prop) (N3 : St3 → Sto → Prop) : Prop := ∀ σ' σi' H' ad' S', Rep P w H' ad' S' → Nx H ad S H' ad' S' → Slots P w Z H' ad' S' σ' σi' → N3 σi' S' → N σ' H'
structure AftS (H : Hp) (ad : L → Addr) (S : Sto) (D : Ends) (D3 : Ends3) : Prop where
  nx : AftN P w Z H ad S D.nx D3.nx
  rt : Aft P w H ad S D.rt D3.rt
  bk : AftN P w Z H ad S D.bk D3.bk
  ct : AftN P w Z H ad S D.ct D3.ct
def Up (t : TE) (u : TE3) : Prop := ∀ σ σi H ad S Q Q3, Rep P w H ad S → Slots P w Z H ad S σ σi → u σi S Q3 → Aft P w H ad S Q Q3 → t σ H Q
def UpT (t : TT) (u : TT3) : Prop := ∀ σ σi H ad S Q Q3, Rep P w H ad S → Slots P w Z H ad S σ σi → u σi S Q3 → AftT P w H ad S Q Q3 → t σ H Q
def UpA (t : TA) (u : TA3) : Prop := ∀ σ σi H ad S Q Q3, Rep P w H ad S → Slots P w Z H ad S σ σi → u σi S Q3 → AftA P w H ad S Q Q3 → t σ H Q
def UpS (t : TS) (u : TS3) : Prop := ∀ σ σi H ad S D D3, Rep P w H ad S → Slots P w Z H ad S σ σi → u D3 σi S → AftS P w Z H ad S D D3 → t D σ H
def Up2 (r : R2) (u : R3) : Prop := ∀ H ad S x y ix iy Q Q3, Rep P w H ad S → ItAt H ad S x ix → ItAt H ad S y iy → u ix iy S Q3 → Aft P w H ad S Q Q3 → r x y H Q
def Up1 (r : V → Hp → VK → Prop) (u : Im → Sto → K3 → Prop) : Prop := ∀ H ad S x ix Q Q3, Rep P w H ad S → ItAt H ad S x ix → u ix S Q3 → Aft P w H ad S Q Q3 → r x H Q
def UpL (r : List V → Hp → VK → Prop) (u : List Im → Sto → K3 → Prop) : Prop := ∀ H ad S xs ixs Q Q3, Rep P w H ad S → Paired (ItAt H ad S) xs ixs → u ixs S Q3 → Aft P w H ad S Q Q3 → r xs H Q
end
section
variable {P : Program} {w : World} {Z : ZZ} {H H' : Hp} {ad ad' : L → Addr} {S S' : Sto}
theorem Aft.go {Q : VK} {Q3 : K3} (k : Aft P w H ad S Q Q3) (n : Nx H ad S H' ad' S') : Aft P w H' ad' S' Q Q3 := fun v H2 ad2 S2 it r m i q => k v H2 ad2 S2 it r (n.trans m) i q
theorem AftT.go {Q : Bool → Hp → Prop} {Q3 : Bool → Sto → Prop} (k : AftT P w H ad S Q Q3) (n : Nx H ad S H' ad' S') : AftT P w H' ad' S' Q Q3 := fun v H2 ad2 S2 r m q => k v H2 ad2 S2 r (n.trans m) q
theorem AftA.go {Q : List V → Hp → Prop} {Q3 : List Im → Sto → Prop} (k : AftA P w H ad S Q Q3) (n : Nx H ad S H' ad' S') : AftA P w H' ad' S' Q Q3 := fun v H2 ad2 S2 it r m i q => k v H2 ad2 S2 it r (n.trans m) i q
theorem AftN.go {N : L2.St → Hp → Prop} {N3 : St3 → Sto → Prop} (k : AftN P w Z H ad S N N3) (n : Nx H ad S H' ad' S') : AftN P w Z H' ad' S' N N3 := fun a b H2 ad2 S2 r m s q => k a b H2 ad2 S2 r (n.trans m) s q
theorem AftS.go {D : Ends} {D3 : Ends3} (k : AftS P w Z H ad S D D3) (n : Nx H ad S H' ad' S') : AftS P w Z H' ad' S' D D3 := ⟨k.nx.go n, k.rt.go n, k.bk.go n, k.ct.go n⟩
theorem pr_go {xs : List V} {its : List Im} (p : Paired (ItAt H ad S) xs its) (n : Nx H ad S H' ad' S') : Paired (ItAt H' ad' S') xs its := pr_map p fun _ _ q => n.it q
end

structure PE3 (X : Cx) (Z : ZZ) (e : Expr) (t : TE) (u : TE3) : Prop where
  pe : PE X e t
  up : Up X.prog X.w Z t u
structure PT3 (X : Cx) (Z : ZZ) (e : Expr) (t : TT) (u : TT3) : Prop where
  pe : PT X e t
  up : UpT X.prog X.w Z t u
structure PW3 (X : Cx) (Z : ZZ) (e : Expr) (t : TT) (u : TT3) : Prop where
  pe : PW X e t
  up : UpT X.prog X.w Z t u
structure PA3 (X : Cx) (Z : ZZ) (es : List Expr) (t : TA) (u : TA3) : Prop where
  pe : PA X es t
  up : UpA X.prog X.w Z t u
structure PS3 (X : Cx) (Z : ZZ) (st : Stmt) (u : TS3) : Prop where
  ex : ∃ t, PS X st t ∧ UpS X.prog X.w Z t u
structure PSs3 (X : Cx) (Z : ZZ) (st : List Stmt) (u : TS3) : Prop where
  ex : ∃ t, PSs X st t ∧ UpS X.prog X.w Z t u

/-! ### names, constants -/
def uVar (i : Nat) : TE3 := fun σ S Q => ∃ it, σ[i]? = some (some it) ∧ Q it S
def uC (d : PyData) : TE3 := fun _ S Q => Q (.d d) S
section
variable {X : Cx} {Z : ZZ} {e a b : Expr} {es : List Expr} {pos : Pos} {u ua ub : TE3}
theorem v3 (i : Nat) {x : Str} {pos : Pos} (hN : X.N[i]? = some x := by rfl) (hv : Vis X.env.scope x := by first | exact Or.inl rfl | exact Or.inr (Or.inl rfl) | exact Or.inr (Or.inr rfl)) (hd : (x == ("__debug__" : Str)) = false := by decide)
    (hcd : (x == ("__classdict__" : Str)) = false := by decide) : PE3 X Z (.Name x pos) (tVar i) (uVar i) := by
  refine ⟨pv i hN hv hd hcd, ?_⟩
  intro σ σi H ad S Q Q3 R sl h k
  obtain ⟨it, h1, h2⟩ := h
  obtain ⟨v, h3, h4⟩ := sl.get h1
  exact ⟨v, h3, k v H ad S it R (Nx.refl _ _ _) h4 h2⟩
theorem up_c {P : Program} {w : World} {Z : ZZ} {v : V} {d : PyData} (hd : ∀ H, Dt H v d) : Up P w Z (tC v) (uC d) := by
  intro σ σi H ad S Q Q3 R sl h k
  exact k v H ad S (.d d) R (Nx.refl _ _ _) (hd H) h
theorem e3_int {i j pos} : PE3 X Z (.Constant (.int i) j pos) (tC (.int i)) (uC (.int i)) := ⟨pe_int, up_c fun _ => .int i⟩
theorem e3_bl {b j pos} : PE3 X Z (.Constant (.bool b) j pos) (tC (.bl b)) (uC (.bool b)) := ⟨pe_bl, up_c fun _ => .bl b⟩
theorem e3_non {j pos} : PE3 X Z (.Constant .none j pos) (tC .non) (uC .none) := ⟨pe_non, up_c fun _ => .non⟩
theorem e3_str {x j pos} : PE3 X Z (.Constant (.str x) j pos) (tC (.str x)) (uC (.str x)) := ⟨pe_str, up_c fun _ => .str x⟩
theorem e3_gint {x : Str} {i : Int} {pos : Pos} (hg : Gl X x) (hm : ∃ t, X.mg x = some (.int i t)) (hd : (x == ("__debug__" : Str)) = false := by decide) : PE3 X Z (.Name x pos) (tC (.int i)) (uC (.int i)) := by
  obtain ⟨t, hm⟩ := hm
  exact ⟨pe_glob (v := .int i) hg hm ⟨t, rfl⟩ hd, up_c fun _ => .int i⟩

/-! ### operators -/
def uOp (r : R3) (ua ub : TE3) : TE3 := fun σ S Q => ua σ S fun x S1 => ub σ S1 fun y S2 => r x y S2 Q
def uUn (r : Im → Sto → K3 → Prop) (ua : TE3) : TE3 := fun σ S Q => ua σ S fun x S1 => r x S1 Q
theorem up_op {P : Program} {w : World} {Z : ZZ} {ta tb : TE} {r : R2} {r3 : R3} (ha : Up P w Z ta ua) (hb : Up P w Z tb ub) (hr : Up2 P w r r3) : Up P w Z (tOp r ta tb) (uOp r3 ua ub) := by
  intro σ σi H ad S Q Q3 R sl h k
  refine ha σ σi H ad S _ _ R sl h ?_
  intro x H1 ad1 S1 ix R1 n1 i1 h1
  refine hb σ σi H1 ad1 S1 _ _ R1 (sl.go n1) h1 ?_
  intro y H2 ad2 S2 iy R2 n2 i2 h2
  exact hr H2 ad2 S2 x y ix iy Q Q3 R2 (n2.it i1) i2 h2 (k.go (n1.trans n2))
theorem up_un {P : Program} {w : World} {Z : ZZ} {ta : TE} {r : V → Hp → VK → Prop} {r3 : Im → Sto → K3 → Prop} (ha : Up P w Z ta ua) (hr : Up1 P w r r3) : Up P w Z (tUn r ta) (uUn r3 ua) := by
  intro σ σi H ad S Q Q3 R sl h k
  refine ha σ σi H ad S _ _ R sl h ?_
  intro x H1 ad1 S1 ix R1 n1 i1 h1
  exact hr H1 ad1 S1 x ix Q Q3 R1 i1 h1 (k.go n1)
theorem e3_op {op : Operator} {r : R2} {r3 : R3} (ho : OpR X (binaryOp op) r) (hr : Up2 X.prog X.w r r3) (ha : PE3 X Z a tha ua) (hb : PE3 X Z b thb ub) : PE3 X Z (.BinOp a op b pos) (tOp r tha thb) (uOp r3 ua ub) := by
  obtain ⟨pa, ha⟩ := ha
  obtain ⟨pb, hb⟩ := hb
  exact ⟨pe_op ho pa pb, up_op ha hb hr⟩
theorem e3_cmp {op : CmpOp} {r : R2} {r3 : R3} (ho : OpR X (compareOp op) r) (hr : Up2 X.prog X.w r r3) (ha : PE3 X Z a tha ua) (hb : PE3 X Z b thb ub) (hm : behindInMarks op b = false) : PE3 X Z (.Compare a [op] [b] pos) (tOp r tha thb) (uOp r3 ua ub) := by
  obtain ⟨pa, ha⟩ := ha
  obtain ⟨pb, hb⟩ := hb
  exact ⟨pe_cmpR ho pa pb hm, up_op ha hb hr⟩
def uTest (u : TE3) : TT3 := fun σ S Q => u σ S fun x S1 => ∃ k, x = .d (.bool k) ∧ Q k S1
theorem up_test {P : Program} {w : World} {Z : ZZ} {t : TE} (h : Up P w Z t u) : UpT P w Z (tTest t) (uTest u) := by
  intro σ σi H ad S Q Q3 R sl q k
  refine h σ σi H ad S _ _ R sl q ?_
  rintro v H1 ad1 S1 it R1 n1 i1 ⟨b, rfl, q1⟩
  exact ⟨b, Dt.blI i1, k b H1 ad1 S1 R1 n1 q1⟩
theorem t3_cmp {op : CmpOp} {r : R2} {r3 : R3} (ho : OpR X (compareOp op) r) (hr : Up2 X.prog X.w r r3) (ha : PE3 X Z a tha ua) (hb : PE3 X Z b thb ub) (hm : behindInMarks op b = false) : PT3 X Z (.Compare a [op] [b] pos) (tTest (tOp r tha thb)) (uTest (uOp r3 ua ub)) := by
  obtain ⟨pa, ha⟩ := ha
  obtain ⟨pb, hb⟩ := hb
  exact ⟨pt_cmpR ho pa pb hm, up_test (up_op ha hb hr)⟩
theorem t3_val (h : PE3 X Z e th u) (he : ∀ whole, isTrue e X.env whole = (do let v ← whole; standAt e.pos; holding [v] (truthy v)) := by intro _; rfl) : PT3 X Z e (tB th) (uTest u) := by
  obtain ⟨p, q⟩ := h
  exact ⟨pt_val p he, up_test q⟩
/-- and, or, not -/
def uAnd (t u : TT3) : TT3 := fun σ S Q => t σ S fun c S1 => if c = true then u σ S1 Q else Q false S1
def uOr (t u : TT3) : TT3 := fun σ S Q => t σ S fun c S1 => if c = true then Q true S1 else u σ S1 Q
def uNot (t : TT3) : TT3 := fun σ S Q => t σ S fun c S1 => Q (!c) S1
variable {tA tB : TT3} {rest : List Expr}
theorem w3_and1 (h : PT3 X Z a th tA) : PW3 X Z (.BoolOp .And [a] pos) th tA := by
  obtain ⟨p, q⟩ := h
  exact ⟨pw_and1 p, q⟩
theorem w3_or1 (h : PT3 X Z a th tA) : PW3 X Z (.BoolOp .Or [a] pos) th tA := by
  obtain ⟨p, q⟩ := h
  exact ⟨pw_or1 p, q⟩
theorem w3_and (h : PT3 X Z a th tA) (g : PW3 X Z (.BoolOp .And (b :: rest) pos) tg tB) : PW3 X Z (.BoolOp .And (a :: b :: rest) pos) (L2.tAnd th tg) (uAnd tA tB) := by
  obtain ⟨p, q⟩ := h
  obtain ⟨p2, q2⟩ := g
  refine ⟨pw_and p p2, ?_⟩
  intro σ σi H ad S Q Q3 R sl z k
  refine q σ σi H ad S _ _ R sl z ?_
  intro c H1 ad1 S1 R1 n1 z1
  cases c with
  | true => exact q2 σ σi H1 ad1 S1 Q Q3 R1 (sl.go n1) z1 (k.go n1)
  | false => exact k false H1 ad1 S1 R1 n1 z1
theorem w3_or (h : PT3 X Z a th tA) (g : PW3 X Z (.BoolOp .Or (b :: rest) pos) tg tB) : PW3 X Z (.BoolOp .Or (a :: b :: rest) pos) (L2.tOr th tg) (uOr tA tB) := by
  obtain ⟨p, q⟩ := h
  obtain ⟨p2, q2⟩ := g
  refine ⟨pw_or p p2, ?_⟩
  intro σ σi H ad S Q Q3 R sl z k
  refine q σ σi H ad S _ _ R sl z ?_
  intro c H1 ad1 S1 R1 n1 z1
  cases c with
  | false => exact q2 σ σi H1 ad1 S1 Q Q3 R1 (sl.go n1) z1 (k.go n1)
  | true => exact k true H1 ad1 S1 R1 n1 z1
theorem PW3.pt (h : PW3 X Z e th tA) : PT3 X Z e th tA := by
  obtain ⟨p, q⟩ := h
  exact ⟨p.pt, q⟩
theorem t3_not (h : PT3 X Z a th tA) : PT3 X Z (.UnaryOp .Not a pos) (tNot th) (uNot tA) := by
  obtain ⟨p, q⟩ := h
  refine ⟨pt_not p, ?_⟩
  intro σ σi H ad S Q Q3 R sl z k
  exact q σ σi H ad S _ _ R sl z fun c H1 ad1 S1 R1 n1 z1 => k (!c) H1 ad1 S1 R1 n1 z1
/-- as values -/
def uAndV (u v : TE3) : TE3 := fun σ S Q => u σ S fun x S1 => ∃ c, x = .d (.bool c) ∧ if c = true then v σ S1 Q else Q (.d (.bool false)) S1
def uOrV (u v : TE3) : TE3 := fun σ S Q => u σ S fun x S1 => ∃ c, x = .d (.bool c) ∧ if c = true then Q (.d (.bool true)) S1 else v σ S1 Q
def uNotV (u : TE3) : TE3 := fun σ S Q => u σ S fun x S1 => ∃ c, x = .d (.bool c) ∧ Q (.d (.bool (!c))) S1
theorem e3_one {op} (h : PE3 X Z a th ua) : PE3 X Z (.BoolOp op [a] pos) th ua := by
  obtain ⟨p, q⟩ := h
  exact ⟨pe_one p, q⟩
theorem e3_and (h : PE3 X Z a th ua) (g : PE3 X Z (.BoolOp .And (b :: rest) pos) tg ub) : PE3 X Z (.BoolOp .And (a :: b :: rest) pos) (tAndV th tg) (uAndV ua ub) := by
  obtain ⟨p, q⟩ := h
  obtain ⟨p2, q2⟩ := g
  refine ⟨pe_and p p2, ?_⟩
  intro σ σi H ad S Q Q3 R sl z k
  refine q σ σi H ad S _ _ R sl z ?_
  rintro v H1 ad1 S1 it R1 n1 i1 ⟨c, rfl, z1⟩
  refine ⟨c, Dt.blI i1, ?_⟩
  cases c with
  | true => exact q2 σ σi H1 ad1 S1 Q Q3 R1 (sl.go n1) z1 (k.go n1)
  | false => exact k (.bl false) H1 ad1 S1 (.d (.bool false)) R1 n1 (Dt.bl false) z1
theorem e3_or (h : PE3 X Z a th ua) (g : PE3 X Z (.BoolOp .Or (b :: rest) pos) tg ub) : PE3 X Z (.BoolOp .Or (a :: b :: rest) pos) (tOrV th tg) (uOrV ua ub) := by
  obtain ⟨p, q⟩ := h
  obtain ⟨p2, q2⟩ := g
  refine ⟨pe_or p p2, ?_⟩
  intro σ σi H ad S Q Q3 R sl z k
  refine q σ σi H ad S _ _ R sl z ?_
  rintro v H1 ad1 S1 it R1 n1 i1 ⟨c, rfl, z1⟩
  refine ⟨c, Dt.blI i1, ?_⟩
  cases c with
  | false => exact q2 σ σi H1 ad1 S1 Q Q3 R1 (sl.go n1) z1 (k.go n1)
  | true => exact k (.bl true) H1 ad1 S1 (.d (.bool true)) R1 n1 (Dt.bl true) z1
theorem e3_notV (h : PE3 X Z a th ua) : PE3 X Z (.UnaryOp .Not a pos) (tNotV th) (uNotV ua) := by
  obtain ⟨p, q⟩ := h
  refine ⟨pe_not p, ?_⟩
  intro σ σi H ad S Q Q3 R sl z k
  refine q σ σi H ad S _ _ R sl z ?_
  rintro v H1 ad1 S1 it R1 n1 i1 ⟨c, rfl, z1⟩
  exact ⟨c, Dt.blI i1, k (.bl (!c)) H1 ad1 S1 (.d (.bool (!c))) R1 n1 (Dt.bl _) z1⟩
def uIf (t : TT3) (u v : TE3) : TE3 := fun σ S Q => t σ S fun c S1 => if c = true then u σ S1 Q else v σ S1 Q
theorem e3_ifExp {c : Expr} (hc : PT3 X Z c thc tA) (ha : PE3 X Z a tha ua) (hb : PE3 X Z b thb ub) : PE3 X Z (.IfExp c a b pos) (tIf thc tha thb) (uIf tA ua ub) := by
  obtain ⟨p, q⟩ := hc
  obtain ⟨p1, q1⟩ := ha
  obtain ⟨p2, q2⟩ := hb
  refine ⟨pe_ifExp p p1 p2, ?_⟩
  intro σ σi H ad S Q Q3 R sl z k
  refine q σ σi H ad S _ _ R sl z ?_
  intro c H1 ad1 S1 R1 n1 z1
  cases c with
  | true => exact q1 σ σi H1 ad1 S1 Q Q3 R1 (sl.go n1) z1 (k.go n1)
  | false => exact q2 σ σi H1 ad1 S1 Q Q3 R1 (sl.go n1) z1 (k.go n1)

/-! ### arguments, displays -/
def uNil : TA3 := fun _ S Q => Q [] S
def uCons (u : TE3) (r : TA3) : TA3 := fun σ S Q => u σ S fun x S1 => r σ S1 fun xs S2 => Q (x :: xs) S2
theorem a3_nil : PA3 X Z [] tNil uNil := ⟨pa_nil, fun _ _ H ad S _ _ R _ h k => k [] H ad S [] R (Nx.refl _ _ _) .nil h⟩
theorem a3_cons {r : TA3} (h : PE3 X Z e th u) (g : PA3 X Z es tg r) (hs : starEach (e :: es) X.env = (false, eval e X.env) :: starEach es X.env := by rfl) : PA3 X Z (e :: es) (tCons th tg) (uCons u r) := by
  obtain ⟨p, q⟩ := h
  obtain ⟨p2, q2⟩ := g
  refine ⟨pa_cons p p2 hs, ?_⟩
  intro σ σi H ad S Q Q3 R sl z k
  refine q σ σi H ad S _ _ R sl z ?_
  intro v H1 ad1 S1 it R1 n1 i1 z1
  refine q2 σ σi H1 ad1 S1 _ _ R1 (sl.go n1) z1 ?_
  intro vs H2 ad2 S2 its R2 n2 p2 z2
  exact k (v :: vs) H2 ad2 S2 (it :: its) R2 (n1.trans n2) (.cons (n2.it i1) p2) z2
/-- data alone -/
def datas : List Im → Option (List PyData)
  | [] => some []
  | .d x :: r => (datas r).map (x :: ·)
  | .l _ :: _ => none
  | .a _ :: _ => none
theorem datas_at {H : Hp} {ad : L → Addr} {S : Sto} : ∀ {its : List Im} {vs : List V} {ds : List PyData}, Paired (ItAt H ad S) vs its → datas its = some ds → Dts H vs ds
  | [], _, _, .nil, h => by
    cases h
    exact .nil
  | .d x :: r, _, ds, .cons h t, e => by
    have e' : (datas r).map (x :: ·) = some ds := e
    obtain ⟨ds', h1, h2⟩ := Option.map_eq_some_iff.mp e'
    subst h2
    exact .cons h (datas_at t h1)
  | .l _ :: _, _, _, _, h => by cases h
  | .a _ :: _, _, _, _, h => by cases h
def uTup (r : TA3) : TE3 := fun σ S Q => r σ S fun its S1 => ∃ ds, datas its = some ds ∧ ds.length ≤ sizeLine ∧ Q (.d (.tuple ds)) S1
theorem e3_tup {r : TA3} {x1} (g : PA3 X Z es tg r) : PE3 X Z (.Tuple es x1 pos) (tTup tg) (uTup r) := by
  obtain ⟨p, q⟩ := g
  refine ⟨pe_tup p, ?_⟩
  intro σ σi H ad S Q Q3 R sl z k
  refine q σ σi H ad S _ _ R sl z ?_
  rintro vs H1 ad1 S1 its R1 n1 p1 ⟨ds, h1, h2, h3⟩
  have hd := datas_at p1 h1
  refine ⟨by rw [hd.len]; exact h2, fun a ha => ?_⟩
  obtain ⟨R2, n2⟩ := R1.tmp (o := .tup vs) ha
  exact k (.ref a) _ ad1 S1 (.d (.tuple ds)) R2 (n1.trans n2) (Dt.tup (.inl upd_same) (Dts.mono n2.tk _ hd)) h3
/-- a new cell: no name of its own, or one that is not taken -/
def New (S : Sto) (Q : L → Prop) : Prop := (∀ p, S (.t p) = none → Q (.t p)) ∨ ∃ c, S c = none ∧ (∀ q, c ≠ .t q) ∧ Q c
theorem new_at {P : Program} {w : World} {H : Hp} {ad : L → Addr} {S : Sto} {p : Addr} {o : HO} {e : Ce} {Q : L → Prop} (R : Rep P w H ad S) (n : New S Q) (hp : H p = none)
    (mk : ∀ ad' c, Nx H ad S (upd H p o) ad' (S.put c e) → CeAt P w (upd H p o) ad' (S.put c e) p e) :
    ∃ ad' c, Rep P w (upd H p o) ad' (S.put c e) ∧ Nx H ad S (upd H p o) ad' (S.put c e) ∧ ad' c = p ∧ S c = none ∧ Q c := by
  rcases n with n | ⟨c, hc, ht, q⟩
  · have nx : Nx H ad S (upd H p o) ad (S.put (.t p) e) := ⟨Tk.new hp, fun _ h => ⟨rfl, put_dom h⟩⟩
    obtain ⟨R1, n1, f1⟩ := R.newT hp (mk ad (.t p) nx)
    exact ⟨ad, .t p, R1, n1, R.tm p, f1, n p f1⟩
  · have nx : Nx H ad S (upd H p o) (adU ad c p) (S.put c e) := ⟨Tk.new hp, fun x h => ⟨adU_ne (fun z => h (z ▸ hc)), put_dom h⟩⟩
    obtain ⟨R1, n1⟩ := R.new hc ht hp (mk _ c nx)
    exact ⟨_, c, R1, n1, adU_same, hc, q⟩
def uLst (r : TA3) : TE3 := fun σ S Q => r σ S fun its S1 => its.length ≤ sizeLine ∧ New S1 fun c => Q (.l c) (S1.put c (.lst its))
theorem lst_new {P : Program} {w : World} {H : Hp} {ad : L → Addr} {S : Sto} (R : Rep P w H ad S) {vs : List V} {its : List Im} (p : Paired (ItAt H ad S) vs its) {a : Addr} (ha : H a = none) :
    Rep P w (upd H a (.lst vs)) ad (S.put (.t a) (.lst its)) ∧ Nx H ad S (upd H a (.lst vs)) ad (S.put (.t a) (.lst its)) ∧ S (.t a) = none := by
  have n : Nx H ad S (upd H a (.lst vs)) ad (S.put (.t a) (.lst its)) := ⟨Tk.new ha, fun _ h => ⟨rfl, put_dom h⟩⟩
  exact R.newT ha ⟨vs, upd_same, pr_go p n⟩
theorem it_t {H : Hp} {ad : L → Addr} {S : Sto} {P : Program} {w : World} (R : Rep P w H ad S) {a : Addr} (h : S (.t a) ≠ none) : ItAt H ad S (.ref a) (.l (.t a)) := ⟨by rw [R.tm], h⟩
theorem e3_lst {r : TA3} (g : PA3 X Z es tg r) : PE3 X Z (.List es pos) (tLst tg) (uLst r) := by
  obtain ⟨p, q⟩ := g
  refine ⟨pe_lst p, ?_⟩
  intro σ σi H ad S Q Q3 R sl z k
  refine q σ σi H ad S _ _ R sl z ?_
  rintro vs H1 ad1 S1 its R1 n1 p1 ⟨h2, h3⟩
  refine ⟨by rw [Paired.length p1]; exact h2, fun a ha => ?_⟩
  obtain ⟨ad2, c, R2, n2, e2, _, q2⟩ := new_at (o := .lst vs) (e := .lst its) R1 h3 ha fun ad' c n => ⟨vs, upd_same, pr_go p1 n⟩
  exact k (.ref a) _ ad2 _ (.l c) R2 (n1.trans n2) ⟨by rw [e2], by rw [put_same]; exact fun z => nomatch z⟩ q2
end

/-! ### the operators' meaning -/
def oI (C : Int → Int → Prop) (g : Int → Int → PyData) : R3 := fun x y S Q => ∃ i j, x = .d (.int i) ∧ y = .d (.int j) ∧ C i j ∧ Q (.d (g i j)) S
def oI0 (g : Int → Int → PyData) : R3 := fun x y S Q => ∃ i j, x = .d (.int i) ∧ y = .d (.int j) ∧ Q (.d (g i j)) S
section
variable {P : Program} {w : World}
theorem up_I {C : Int → Int → Prop} {g : Int → Int → V} {g3 : Int → Int → PyData} (hg : ∀ i j H, Dt H (g i j) (g3 i j)) : Up2 P w (rI C g) (oI C g3) := by
  rintro H ad S x y ix iy Q Q3 R hx hy ⟨i, j, rfl, rfl, c, q⟩ k
  exact ⟨i, j, Dt.intI hx, Dt.intI hy, c, k _ H ad S (.d (g3 i j)) R (Nx.refl _ _ _) (hg i j H) q⟩
theorem up_I0 {g : Int → Int → V} {g3 : Int → Int → PyData} (hg : ∀ i j H, Dt H (g i j) (g3 i j)) : Up2 P w (rI0 g) (oI0 g3) := by
  rintro H ad S x y ix iy Q Q3 R hx hy ⟨i, j, rfl, rfl, q⟩ k
  exact ⟨i, j, Dt.intI hx, Dt.intI hy, k _ H ad S (.d (g3 i j)) R (Nx.refl _ _ _) (hg i j H) q⟩
/-- == and != of two numbers, two texts, two truth values, None -/
def scal3 : PyData → PyData → Bool
  | .none, .none => true | .none, .int _ => true | .int _, .none => true | .none, .bool _ => true | .bool _, .none => true | .none, .str _ => true | .str _, .none => true
  | .int _, .int _ => true | .bool _, .bool _ => true | .str _, .str _ => true
  | .int _, .str _ => true | .str _, .int _ => true | .bool _, .str _ => true | .str _, .bool _ => true
  | _, _ => false
def oEq (neg : Bool) : R3 := fun x y S Q => ∃ a b, x = .d a ∧ y = .d b ∧ scal3 a b = true ∧ ∀ c : Bool, (c = true ↔ a = b) → Q (.d (.bool (if neg then !c else c))) S
theorem scal_dec {H : Hp} {a b : PyData} {x y : V} (hx : Dt H x a) (hy : Dt H y b) (h : scal3 a b = true) : scal x y = true ∧ (x = y ↔ a = b) := by
  cases a <;> cases b <;> simp [scal3] at h <;> (cases hx; cases hy; refine ⟨rfl, ?_⟩; simp)
theorem up_eq : Up2 P w rEq (oEq false) := by
  rintro H ad S x y ix iy Q Q3 R hx hy ⟨a, b, rfl, rfl, h, q⟩ k
  obtain ⟨h1, h2⟩ := scal_dec hx hy h
  refine ⟨h1, k _ H ad S (.d (.bool _)) R (Nx.refl _ _ _) (Dt.bl _) (q (decide (x = y)) ?_)⟩
  rw [decide_eq_true_iff]
  exact h2
theorem up_ne : Up2 P w rNe (oEq true) := by
  rintro H ad S x y ix iy Q Q3 R hx hy ⟨a, b, rfl, rfl, h, q⟩ k
  obtain ⟨h1, h2⟩ := scal_dec hx hy h
  refine ⟨h1, k _ H ad S (.d (.bool _)) R (Nx.refl _ _ _) (Dt.bl _) (q (decide (x = y)) ?_)⟩
  rw [decide_eq_true_iff]
  exact h2
/-- == and != of data of any depth -/
def oEqD (neg : Bool) : R3 := fun x y S Q => ∃ a b, x = .d a ∧ y = .d b ∧ SeqAt.shaped a = true ∧ SeqAt.shaped b = true ∧ Q (.d (.bool (if neg then !PyData.eqv a b else PyData.eqv a b))) S
theorem up_eqD {K : PySem.W.Frag} : Up2 P w (rEqD K) (oEqD false) := by
  rintro H ad S x y ix iy Q Q3 R hx hy ⟨a, b, rfl, rfl, h1, h2, q⟩ k
  exact ⟨a, b, Dt.dp a hx, Dt.dp b hy, h1, h2, k _ H ad S (.d (.bool _)) R (Nx.refl _ _ _) (Dt.bl _) q⟩
theorem up_neD {K : PySem.W.Frag} : Up2 P w (rNeD K) (oEqD true) := by
  rintro H ad S x y ix iy Q Q3 R hx hy ⟨a, b, rfl, rfl, h1, h2, q⟩ k
  exact ⟨a, b, Dt.dp a hx, Dt.dp b hy, h1, h2, k _ H ad S (.d (.bool _)) R (Nx.refl _ _ _) (Dt.bl _) q⟩
/-- in, not in: a list of data, a tuple -/
def oIn (neg : Bool) : R3 := fun x y S Q => ∃ a ds, x = .d a ∧ ((∃ c its, y = .l c ∧ S c = some (.lst its) ∧ datas its = some ds) ∨ y = .d (.tuple ds)) ∧ SeqAt.shaped a = true ∧ SeqAt.shaped (.list ds) = true ∧
  Q (.d (.bool (if neg then !ds.any (fun z => PyData.eqv z a) else ds.any fun z => PyData.eqv z a))) S
end
end L3
end
section
set_option Elab.async false
set_option maxRecDepth 100000
set_option maxHeartbeats 1000000
namespace L3
open PySem PySem.Spec PyProof.Rows L2 Mx So

/-! ### items -/
theorem pr_atI {α β : Type} {R : α → β → Prop} {xs : List α} {ys : List β} (p : Paired R xs ys) {i : Int} {y : β} (h : atI ys i = some y) : ∃ x, atI xs i = some x ∧ R x y := by
  unfold atI at h ⊢
  rw [Paired.length p]
  cases e : ixN ys.length i with
  | none =>
    rw [e] at h
    cases h
  | some j =>
    rw [e] at h
    exact pr_get p h
theorem dts_pr {H : Hp} : ∀ {vs : List V} {ds : List PyData}, Dts H vs ds → Paired (Dt H) vs ds
  | _, _, .nil => .nil
  | _, _, .cons h t => .cons h (dts_pr t)
theorem pr_dts {H : Hp} : ∀ {vs : List V} {ds : List PyData}, Paired (Dt H) vs ds → Dts H vs ds
  | _, _, .nil => .nil
  | _, _, .cons h t => .cons h (pr_dts t)
def oIxL : R3 := fun x y S Q => ∃ c its i it, x = .l c ∧ y = .d (.int i) ∧ S c = some (.lst its) ∧ atI its i = some it ∧ Q it S
def oIxT : R3 := fun x y S Q => ∃ ds i d, x = .d (.tuple ds) ∧ y = .d (.int i) ∧ atI ds i = some d ∧ Q (.d d) S
def oDgK : R3 := fun x y S Q => ∃ c kvs k it, x = .l c ∧ y = .d (kD k) ∧ S c = some (.dk kvs) ∧ valI kvs k = some it ∧ Q it S
def oDgT : R3 := fun x y S Q => ∃ c kvs ks it, x = .l c ∧ y = .d (.tuple (ks.map kD)) ∧ ks.length ≠ 1 ∧ S c = some (.dt kvs) ∧ valI kvs ks = some it ∧ Q it S
def gD : GK → PyData
  | .inl x => .str x
  | .inr ks => .tuple (ks.map kD)
def oDgM : R3 := fun x y S Q => ∃ c kvs k it, x = .l c ∧ y = .d (gD k) ∧ S c = some (.mx kvs) ∧ valI kvs k = some it ∧ Q it S
def oDInT (neg : Bool) : R3 := fun y x S Q => ∃ c kvs ks, x = .l c ∧ y = .d (.tuple (ks.map kD)) ∧ ks.length ≠ 1 ∧ S c = some (.dt kvs) ∧ Q (.d (.bool (if neg then !(valI kvs ks).isSome else (valI kvs ks).isSome))) S
def oDInK (neg : Bool) : R3 := fun y x S Q => ∃ c kvs k, x = .l c ∧ y = .d (kD k) ∧ S c = some (.dk kvs) ∧ Q (.d (.bool (if neg then !(valI kvs k).isSome else (valI kvs k).isSome))) S
theorem Dt.kd {H : Hp} {v : V} {k : Key} (h : Dt H v (kD k)) : v = kV k := by
  cases k with
  | inl i => exact Dt.intI h
  | inr x => exact Dt.strI h
section
variable {P : Program} {w : World} {Z : ZZ} {K : PySem.W.Frag}
theorem up_ixL : Up2 P w (rIxL K) oIxL := by
  rintro H ad S x y ix iy Q Q3 R hx hy ⟨c, its, i, it, rfl, rfl, hc, ha, q⟩ k
  obtain ⟨rfl, _⟩ := hx
  obtain ⟨xs, h1, h2⟩ := R.at_ c _ hc
  obtain ⟨v, h3, h4⟩ := pr_atI h2 ha
  exact ⟨_, xs, i, v, rfl, Dt.intI hy, SqL.of h1, h3, k v H ad S it R (Nx.refl _ _ _) h4 q⟩
theorem up_ixT : Up2 P w (rIxT K) oIxT := by
  rintro H ad S x y ix iy Q Q3 R hx hy ⟨ds, i, d, rfl, rfl, ha, q⟩ k
  obtain ⟨a, xs, rfl, h1, h2⟩ := Dt.tupI hx
  obtain ⟨v, h3, h4⟩ := pr_atI (dts_pr h2) ha
  exact ⟨_, xs, i, v, rfl, Dt.intI hy, h1.sq, h3, k v H ad S (.d d) R (Nx.refl _ _ _) h4 q⟩
theorem up_dgK {td ty : TE} {ud uy : TE3} (hd : Up P w Z td ud) (hy : Up P w Z ty uy) : Up P w Z (tDGet td ty) (uOp oDgK ud uy) := by
  intro σ σi H ad S Q Q3 R sl h k
  refine hd σ σi H ad S _ _ R sl h ?_
  intro x H1 ad1 S1 ix R1 n1 i1 h1
  refine hy σ σi H1 ad1 S1 _ _ R1 (sl.go n1) h1 ?_
  rintro y H2 ad2 S2 iy R2 n2 i2 ⟨c, kvs, kk, it, rfl, rfl, hc, hv, q⟩
  obtain ⟨rfl, _⟩ := n2.it i1
  obtain ⟨ps, h3, h4⟩ := R2.at_ c _ hc
  obtain ⟨v, h5, h6⟩ := kv_val h4 hv
  refine ⟨_, v, rfl, ?_, k v H2 ad2 S2 it R2 (n1.trans n2) h6 q⟩
  rw [Dt.kd i2, ← h5]
  exact DGet.k h3
theorem up_dgT {td ty : TE} {ud uy : TE3} (hd : Up P w Z td ud) (hy : Up P w Z ty uy) : Up P w Z (tDGet td ty) (uOp oDgT ud uy) := by
  intro σ σi H ad S Q Q3 R sl h k
  refine hd σ σi H ad S _ _ R sl h ?_
  intro x H1 ad1 S1 ix R1 n1 i1 h1
  refine hy σ σi H1 ad1 S1 _ _ R1 (sl.go n1) h1 ?_
  rintro y H2 ad2 S2 iy R2 n2 i2 ⟨c, kvs, ks, it, rfl, rfl, hk1, hc, hv, q⟩
  obtain ⟨rfl, _⟩ := n2.it i1
  obtain ⟨ps, h3, h4⟩ := R2.at_ c _ hc
  obtain ⟨v, h5, h6⟩ := kv_val h4 hv
  obtain ⟨b, rfl, hb⟩ := Dt.key i2 hk1
  refine ⟨_, v, rfl, ?_, k v H2 ad2 S2 it R2 (n1.trans n2) h6 q⟩
  rw [← h5]
  exact DGet.t h3 hb
theorem gd_isK {H : Hp} {v : V} {k : GK} (h : Dt H v (gD k)) : IsK H k v := by
  cases k with
  | inl x => exact Dt.strI h
  | inr ks => exact Dt.keyR h
theorem up_dgM {td ty : TE} {ud uy : TE3} (hd : Up P w Z td ud) (hy : Up P w Z ty uy) : Up P w Z (tMGet P w td ty) (uOp oDgM ud uy) := by
  intro σ σi H ad S Q Q3 R sl h k
  refine hd σ σi H ad S _ _ R sl h ?_
  intro x H1 ad1 S1 ix R1 n1 i1 h1
  refine hy σ σi H1 ad1 S1 _ _ R1 (sl.go n1) h1 ?_
  rintro y H2 ad2 S2 iy R2 n2 i2 ⟨c, kvs, kk, it, rfl, rfl, hc, hv, q⟩
  obtain ⟨rfl, _⟩ := n2.it i1
  obtain ⟨ps, bs, h3, hk, ht, h4⟩ := R2.at_ c _ hc
  obtain ⟨v, h5, h6⟩ := kv_val h4 hv
  exact ⟨_, ps, bs, kk, v, rfl, h3, hk, ht, gd_isK i2, h5, k v H2 ad2 S2 it R2 (n1.trans n2) h6 q⟩
theorem is_eq {ps : List (List Key × V)} {kvs : List (List Key × Im)} {R : V → Im → Prop} (r : Paired (KvR R) ps kvs) (k : List Key) : (valV ps k).isSome = (valI kvs k).isSome := by
  cases e : valI kvs k with
  | none => rw [kv_none r e]; rfl
  | some it =>
    obtain ⟨v, h, _⟩ := kv_val r e
    rw [h]
    rfl
theorem is_eqK {ps : List (Key × V)} {kvs : List (Key × Im)} {R : V → Im → Prop} (r : Paired (KvR R) ps kvs) (k : Key) : (valV ps k).isSome = (valI kvs k).isSome := by
  cases e : valI kvs k with
  | none => rw [kv_none r e]; rfl
  | some it =>
    obtain ⟨v, h, _⟩ := kv_val r e
    rw [h]
    rfl
theorem up_dInT {td ty : TE} {ud uy : TE3} (hd : Up P w Z td ud) (hy : Up P w Z ty uy) : Up P w Z (tDIn ty td) (uOp (oDInT false) uy ud) := by
  intro σ σi H ad S Q Q3 R sl h k
  refine hy σ σi H ad S _ _ R sl h ?_
  intro y H1 ad1 S1 iy R1 n1 i1 h1
  refine hd σ σi H1 ad1 S1 _ _ R1 (sl.go n1) h1 ?_
  rintro x H2 ad2 S2 ix R2 n2 i2 ⟨c, kvs, ks, rfl, rfl, hk1, hc, q⟩
  obtain ⟨rfl, _⟩ := i2
  obtain ⟨ps, h3, h4⟩ := R2.at_ c _ hc
  obtain ⟨b, rfl, hb⟩ := Dt.key (n2.it i1) hk1
  refine ⟨_, _, rfl, DGet.t h3 hb, k _ H2 ad2 S2 (.d (.bool _)) R2 (n1.trans n2) (Dt.bl _) ?_⟩
  rw [is_eq h4]
  exact q
theorem up_dNotInT {td ty : TE} {ud uy : TE3} (hd : Up P w Z td ud) (hy : Up P w Z ty uy) : Up P w Z (tDNotIn ty td) (uOp (oDInT true) uy ud) := by
  intro σ σi H ad S Q Q3 R sl h k
  refine hy σ σi H ad S _ _ R sl h ?_
  intro y H1 ad1 S1 iy R1 n1 i1 h1
  refine hd σ σi H1 ad1 S1 _ _ R1 (sl.go n1) h1 ?_
  rintro x H2 ad2 S2 ix R2 n2 i2 ⟨c, kvs, ks, rfl, rfl, hk1, hc, q⟩
  obtain ⟨rfl, _⟩ := i2
  obtain ⟨ps, h3, h4⟩ := R2.at_ c _ hc
  obtain ⟨b, rfl, hb⟩ := Dt.key (n2.it i1) hk1
  refine ⟨_, _, rfl, DGet.t h3 hb, k _ H2 ad2 S2 (.d (.bool _)) R2 (n1.trans n2) (Dt.bl _) ?_⟩
  rw [is_eq h4]
  exact q
/-- in, not in a tuple of flat data, a list of flat data -/
def oInV (neg : Bool) : R3 := fun x y S Q => ∃ a ds, x = .d a ∧ (y = .d (.tuple ds) ∨ ∃ c its, y = .l c ∧ S c = some (.lst its) ∧ datas its = some ds) ∧ SeqAt.shaped a = true ∧ SeqAt.shaped (.list ds) = true ∧
  Q (.d (.bool (if neg then !ds.any (fun z => PyData.eqv z a) else ds.any fun z => PyData.eqv z a))) S
end
section
variable {X : Cx} {Z : ZZ} {e a b o i value : Expr} {es : List Expr} {pos pos' : Pos} {u ua ub ud uy uv : TE3}
theorem e3_ixL (ha : PE3 X Z a tha ua) (hb : PE3 X Z b thb ub) (hs : PlainIx b) : PE3 X Z (.Subscript a b pos) (tOp (rIxL X.K) tha thb) (uOp oIxL ua ub) := by
  obtain ⟨pa, ha⟩ := ha
  obtain ⟨pb, hb⟩ := hb
  exact ⟨pe_ix ix_list pa pb hs, up_op ha hb up_ixL⟩
theorem e3_ixT (ha : PE3 X Z a tha ua) (hb : PE3 X Z b thb ub) (hs : PlainIx b) : PE3 X Z (.Subscript a b pos) (tOp (rIxT X.K) tha thb) (uOp oIxT ua ub) := by
  obtain ⟨pa, ha⟩ := ha
  obtain ⟨pb, hb⟩ := hb
  exact ⟨pe_ix ix_tup pa pb hs, up_op ha hb up_ixT⟩
theorem e3_dgK (hu : X.A.units + 1 < cLine) (ha : PE3 X Z o tha ud) (hb : PE3 X Z i thb uy) (hs : NoSl i) : PE3 X Z (.Subscript o i pos) (tDGet tha thb) (uOp oDgK ud uy) := by
  obtain ⟨pa, ha⟩ := ha
  obtain ⟨pb, hb⟩ := hb
  exact ⟨pe_dget hu pa pb hs, up_dgK ha hb⟩
theorem e3_dgT (hu : X.A.units + 1 < cLine) (ha : PE3 X Z o tha ud) (hb : PE3 X Z i thb uy) (hs : NoSl i) : PE3 X Z (.Subscript o i pos) (tDGet tha thb) (uOp oDgT ud uy) := by
  obtain ⟨pa, ha⟩ := ha
  obtain ⟨pb, hb⟩ := hb
  exact ⟨pe_dget hu pa pb hs, up_dgT ha hb⟩
theorem e3_dgM (hu : X.A.units + 1 < cLine) (ha : PE3 X Z o tha ud) (hb : PE3 X Z i thb uy) (hs : NoSl i) : PE3 X Z (.Subscript o i pos) (tMGet X.prog X.w tha thb) (uOp oDgM ud uy) := by
  obtain ⟨pa, ha⟩ := ha
  obtain ⟨pb, hb⟩ := hb
  exact ⟨pe_mget hu pa pb hs, up_dgM ha hb⟩
def uB (u : TE3) : TT3 := uTest u
theorem up_B {P : Program} {w : World} {Z : ZZ} {t : TE} (h : Up P w Z t u) : UpT P w Z (tB t) (uTest u) := by
  intro σ σi H ad S Q Q3 R sl q k
  refine h σ σi H ad S _ _ R sl q ?_
  rintro v H1 ad1 S1 it R1 n1 i1 ⟨b, rfl, q1⟩
  exact ⟨b, Dt.blI i1, k b H1 ad1 S1 R1 n1 q1⟩
theorem t3_dinT (hu : X.A.units + 1 < cLine) (hb : PE3 X Z i thb uy) (ha : PE3 X Z o tha ud) (h1 : behindInMarks .In o = false := by rfl) : PT3 X Z (.Compare i [.In] [o] pos) (tB (tDIn thb tha)) (uTest (uOp (oDInT false) uy ud)) := by
  obtain ⟨pa, ha⟩ := ha
  obtain ⟨pb, hb⟩ := hb
  exact ⟨pt_cmp (pc_din hu pb pa) h1, up_B (up_dInT ha hb)⟩
theorem t3_dnotinT (hu : X.A.units + 1 < cLine) (hb : PE3 X Z i thb uy) (ha : PE3 X Z o tha ud) (h1 : behindInMarks .NotIn o = false := by rfl) : PT3 X Z (.Compare i [.NotIn] [o] pos) (tB (tDNotIn thb tha)) (uTest (uOp (oDInT true) uy ud)) := by
  obtain ⟨pa, ha⟩ := ha
  obtain ⟨pb, hb⟩ := hb
  exact ⟨pt_cmp (pc_dnotin hu pb pa) h1, up_B (up_dNotInT ha hb)⟩

/-! ### len -/
def oLen : List Im → Sto → K3 → Prop := fun xs S Q => ∃ x n, xs = [x] ∧ ((∃ c its, x = .l c ∧ S c = some (.lst its) ∧ n = its.length) ∨ ∃ ds, x = .d (.tuple ds) ∧ n = ds.length) ∧ Q (.d (.int (n : Nat))) S
def uCB (r : List Im → Sto → K3 → Prop) (ua : TA3) : TE3 := fun σ S Q => ua σ S fun xs S1 => r xs S1 Q
theorem up_CB {P : Program} {w : World} {Z : ZZ} {r : List V → Hp → VK → Prop} {r3 : List Im → Sto → K3 → Prop} {ta : TA} {ua : TA3} (ha : UpA P w Z ta ua) (hr : UpL P w r r3) : Up P w Z (tCB r ta) (uCB r3 ua) := by
  intro σ σi H ad S Q Q3 R sl h k
  refine ha σ σi H ad S _ _ R sl h ?_
  intro vs H1 ad1 S1 its R1 n1 p1 h1
  exact hr H1 ad1 S1 vs its Q Q3 R1 p1 h1 (k.go n1)
theorem pr1 {α β : Type} {R : α → β → Prop} {xs : List α} {y : β} (p : Paired R xs [y]) : ∃ x, xs = [x] ∧ R x y := by
  cases p with
  | cons h t =>
    cases t
    exact ⟨_, rfl, h⟩
theorem pr2 {α β : Type} {R : α → β → Prop} {xs : List α} {y z : β} (p : Paired R xs [y, z]) : ∃ x u, xs = [x, u] ∧ R x y ∧ R u z := by
  cases p with
  | cons h t =>
    obtain ⟨u, rfl, h2⟩ := pr1 t
    exact ⟨_, _, rfl, h, h2⟩
theorem up_len {P : Program} {w : World} {K : PySem.W.Frag} : UpL P w (fun xs H Q => ∃ p ys, xs = [.ref p] ∧ (SqL K H p ys ∨ SqT K H p ys) ∧ Q (.int ys.length) H) oLen := by
  rintro H ad S xs ixs Q Q3 R p ⟨x, n, rfl, hx, q⟩ k
  obtain ⟨v, rfl, hv⟩ := pr1 p
  rcases hx with ⟨c, its, rfl, hc, rfl⟩ | ⟨ds, rfl, rfl⟩
  · obtain ⟨rfl, _⟩ := hv
    obtain ⟨ys, h1, h2⟩ := R.at_ c _ hc
    refine ⟨_, ys, rfl, .inl (SqL.of h1), k _ H ad S (.d (.int _)) R (Nx.refl _ _ _) (Dt.int _) ?_⟩
    rw [Paired.length h2]
    exact q
  · obtain ⟨a, ys, rfl, h1, h2⟩ := Dt.tupI hv
    refine ⟨_, ys, rfl, .inr (h1.sq), k _ H ad S (.d (.int _)) R (Nx.refl _ _ _) (Dt.int _) ?_⟩
    rw [h2.len]
    exact q
theorem e3_callB {x : Str} {p : Pos} {id : String} {r : List V → Hp → VK → Prop} {r3 : List Im → Sto → K3 → Prop} {ua : TA3} (hc : CallR X (.builtin id) r) (hr : UpL X.prog X.w r r3) (hg : Gl X x) (hm : X.mg x = none) (hv : bootBuiltins x = some (.builtin id)) (ha : PA3 X Z (e :: es) tg ua)
    (hn : x ≠ "__name__" := by decide) (hdb : (x == ("__debug__" : Str)) = false := by decide) (he : starEach (e :: es) X.env = (false, eval e X.env) :: starEach es X.env := by rfl) (hpl : (backTo pos (starEach es X.env)).any (·.1) = false := by rfl) :
    PE3 X Z (.Call (.Name x p) (e :: es) [] pos) (tCB r tg) (uCB r3 ua) := by
  obtain ⟨pa, ha⟩ := ha
  exact ⟨pe_callB hc hg hm hv pa hn hdb he hpl, up_CB ha hr⟩
theorem e3_callTy {x : Str} {p : Pos} {T : String} {r : List V → Hp → VK → Prop} {r3 : List Im → Sto → K3 → Prop} {ua : TA3} (hc : CallR X (.type T) r) (hr : UpL X.prog X.w r r3) (hg : Gl X x) (hm : X.mg x = none) (hv : bootBuiltins x = some (.type T)) (ha : PA3 X Z (e :: es) tg ua)
    (hn : x ≠ "__name__" := by decide) (hdb : (x == ("__debug__" : Str)) = false := by decide) (he : starEach (e :: es) X.env = (false, eval e X.env) :: starEach es X.env := by rfl) (hpl : (backTo pos (starEach es X.env)).any (·.1) = false := by rfl) :
    PE3 X Z (.Call (.Name x p) (e :: es) [] pos) (tCB r tg) (uCB r3 ua) := by
  obtain ⟨pa, ha⟩ := ha
  exact ⟨pe_callTy hc hg hm hv pa hn hdb he hpl, up_CB ha hr⟩
theorem e3_len {x : Str} {p : Pos} {ua : TA3} (hg : Gl X x) (hm : X.mg x = none) (hv : bootBuiltins x = some (.builtin "len")) (ha : PA3 X Z [e] tg ua) (hn : x ≠ "__name__" := by decide) (hdb : (x == ("__debug__" : Str)) = false := by decide)
    (he : starEach [e] X.env = [(false, eval e X.env)] := by rfl) (hpl : (backTo pos (starEach [] X.env)).any (·.1) = false := by rfl) : PE3 X Z (.Call (.Name x p) [e] [] pos) (tCB (fun xs H Q => ∃ p ys, xs = [.ref p] ∧ (SqL X.K H p ys ∨ SqT X.K H p ys) ∧ Q (.int ys.length) H) tg) (uCB oLen ua) :=
  e3_callB call_len_seq up_len hg hm hv ha hn hdb he hpl

/-! ### calls of defs -/
abbrev XK3 := Value → Sto → Prop
abbrev Sp3 := List Im → Sto → K3 → XK3 → Prop
def AftX (P : Program) (w : World) (H : Hp) (ad : L → Addr) (S : Sto) (E : XK) (E3 : XK3) : Prop := ∀ c H' ad' S', Rep P w H' ad' S' → Nx H ad S H' ad' S' → E3 c S' → E c none H'
/-- a promise over the store, as a promise over the heap -/
def spOf (P : Program) (w : World) (sp : Sp3) : Sp := fun vs H Q E => ∃ ad S its Q3 E3, Rep P w H ad S ∧ Paired (ItAt H ad S) vs its ∧ sp its S Q3 E3 ∧ Aft P w H ad S Q Q3 ∧ AftX P w H ad S E E3
def uCall (sp : Sp3) (ua : TA3) : TE3 := fun σ S Q => ua σ S fun its S1 => sp its S1 Q fun _ _ => False
theorem up_call {P : Program} {w : World} {Z : ZZ} {sp : Sp3} {ta : TA} {ua : TA3} (ha : UpA P w Z ta ua) : Up P w Z (tCall (spOf P w sp) [] E0 ta) (uCall sp ua) := by
  intro σ σi H ad S Q Q3 R sl h k
  refine ha σ σi H ad S _ _ R sl h ?_
  intro vs H1 ad1 S1 its R1 n1 p1 h1
  rw [List.append_nil]
  exact ⟨ad1, S1, its, Q3, _, R1, p1, h1, k.go n1, fun _ _ _ _ _ _ z => z.elim⟩
theorem e3_call {k : Nat} {f : Addr} {fd : FuncData} {ps : List Str} {sp : Sp3} {x : Str} {p : Pos} {ua : TA3} (F : FnOk X.prog X.w X.K X.mg X.base (LT.CX X.prog X.w) k f fd ps (spOf X.prog X.w sp)) (hr : Room k X.A) (hg : Gl X x) (hm : X.mg x = some (.ref f)) (hk : PySem.W.keepIn X.K (.ref f) = true)
    (hb : Binds X.K fd ps []) (ha : PA3 X Z (e :: es) tg ua) (hdb : (x == ("__debug__" : Str)) = false := by decide) (he : starEach (e :: es) X.env = (false, eval e X.env) :: starEach es X.env := by rfl) (hpl : (backTo pos (starEach es X.env)).any (·.1) = false := by rfl) :
    PE3 X Z (.Call (.Name x p) (e :: es) [] pos) (tCall (spOf X.prog X.w sp) [] E0 tg) (uCall sp ua) := by
  obtain ⟨pa, ha⟩ := ha
  exact ⟨pe_call F hr hg hm hk hb .nil LT.passL pa hdb he hpl, up_call ha⟩
/-- a call that may raise -/
def uCallX (sp : Sp3) (z3 : WX3) (ua : TA3) : TE3 := fun σ S Q => ua σ S fun its S1 => sp its S1 Q fun c S2 => z3 c σ S2
theorem up_callX {P : Program} {w : World} {Z : ZZ} {sp : Sp3} {ta : TA} {ua : TA3} (ha : UpA P w Z ta ua) : Up P w Z (tCallS (spOf P w sp) (WE Z.z) ta) (uCallX sp Z.z3 ua) := by
  intro σ σi H ad S Q Q3 R sl h k
  refine ha σ σi H ad S _ _ R sl h ?_
  intro vs H1 ad1 S1 its R1 n1 p1 h1
  exact ⟨ad1, S1, its, Q3, _, R1, p1, h1, k.go n1, fun c H' ad' S' R' n' z => sl.ax c σ σi H' ad' S' R' (n1.trans n') ((sl.pr.go n1).go n') z⟩
theorem e3_callX {k : Nat} {f : Addr} {fd : FuncData} {ps : List Str} {sp : Sp3} {x : Str} {p : Pos} {ua : TA3} (tk : LT.Takes X Z.z) (F : FnOk X.prog X.w X.K X.mg X.base (LT.CX X.prog X.w) k f fd ps (spOf X.prog X.w sp)) (hr : Room k X.A) (hg : Gl X x) (hm : X.mg x = some (.ref f)) (hk : PySem.W.keepIn X.K (.ref f) = true)
    (hb : Binds X.K fd ps []) (ha : PA3 X Z (e :: es) tg ua) (hdb : (x == ("__debug__" : Str)) = false := by decide) (he : starEach (e :: es) X.env = (false, eval e X.env) :: starEach es X.env := by rfl) (hpl : (backTo pos (starEach es X.env)).any (·.1) = false := by rfl) :
    PE3 X Z (.Call (.Name x p) (e :: es) [] pos) (tCallS (spOf X.prog X.w sp) (WE Z.z) tg) (uCallX sp Z.z3 ua) := by
  obtain ⟨pa, ha⟩ := ha
  exact ⟨pe_callS F hr hg hm hk hb (LT.passAt tk) pa hdb he hpl, up_callX ha⟩
end

/-! ### statements -/
def uNext : TS3 := fun D σ S => D.nx σ S
def uSeq (t u : TS3) : TS3 := fun D σ S => t { D with nx := u D } σ S
def uRet (u : TE3) : TS3 := fun D σ S => u σ S D.rt
def uDrop (u : TE3) : TS3 := fun D σ S => u σ S fun _ S1 => D.nx σ S1
def uIfS (c : TT3) (t u : TS3) : TS3 := fun D σ S => c σ S fun b S1 => if b = true then t D σ S1 else u D σ S1
abbrev TG3 := Im → St3 → Sto → (St3 → Sto → Prop) → Prop
def uAsg (u : TE3) (g : TG3) : TS3 := fun D σ S => u σ S fun x S1 => g x σ S1 D.nx
def kName (i : Nat) : TG3 := fun it σ S N => N (σ.set i (some it)) S
def UpG (P : Program) (w : World) (Z : ZZ) (g : TG) (u : TG3) : Prop := ∀ v it σ σi H ad S N N3, Rep P w H ad S → Slots P w Z H ad S σ σi → ItAt H ad S v it → u it σi S N3 → AftN P w Z H ad S N N3 → g v σ H N
structure PG3 (X : Cx) (Z : ZZ) (tg : Expr) (u : TG3) : Prop where
  ex : ∃ g, PG X tg g ∧ UpG X.prog X.w Z g u
section
variable {X : Cx} {Z : ZZ} {st : Stmt} {rest : List Stmt} {e : Expr} {es : List Expr} {pos : Pos} {u : TE3} {t r : TS3}
theorem ss_nil : PSs3 X Z [] uNext := ⟨_, pss_nil, fun _ _ H ad S _ _ R sl h k => k.nx _ _ H ad S R (Nx.refl _ _ _) sl h⟩
theorem ss_one (h : PS3 X Z st t) : PSs3 X Z [st] t := by
  obtain ⟨q, p, h⟩ := h.ex
  exact ⟨_, pss_one p, h⟩
theorem ss_cons (h : PS3 X Z st t) (g : PSs3 X Z rest r) : PSs3 X Z (st :: rest) (uSeq t r) := by
  obtain ⟨q, p, h⟩ := h.ex
  obtain ⟨q2, p2, g⟩ := g.ex
  refine ⟨_, pss_cons p p2, ?_⟩
  intro σ σi H ad S D D3 R sl z k
  refine h σ σi H ad S _ _ R sl z ⟨?_, k.rt, k.bk, k.ct⟩
  intro σ' σi' H' ad' S' R' n' sl' z'
  exact g σ' σi' H' ad' S' D D3 R' sl' z' (k.go n')
theorem s3_ret (h : PE3 X Z e th0 u) : PS3 X Z (.Return (some e) pos) (uRet u) := by
  obtain ⟨p, h⟩ := h
  refine ⟨_, ps_ret p, ?_⟩
  intro σ σi H ad S D D3 R sl z k
  exact h σ σi H ad S _ _ R sl z k.rt
theorem s3_retN : PS3 X Z (.Return none pos) (fun D _ S => D.rt (.d .none) S) := by
  refine ⟨_, ps_retN, ?_⟩
  intro σ σi H ad S D D3 R sl z k
  exact k.rt .non H ad S (.d .none) R (Nx.refl _ _ _) Dt.non z
theorem s3_expr (h : PE3 X Z e th0 u) (hs : swapsWith e none pos.line X.env = pure false := by rfl) : PS3 X Z (.Expr e pos) (uDrop u) := by
  obtain ⟨p, h⟩ := h
  refine ⟨_, ps_expr p hs, ?_⟩
  intro σ σi H ad S D D3 R sl z k
  refine h σ σi H ad S _ _ R sl z ?_
  intro v H1 ad1 S1 it R1 n1 i1 z1
  exact k.nx σ σi H1 ad1 S1 R1 n1 (sl.go n1) z1
theorem s3_doc {x j pos pos'} : PS3 X Z (.Expr (.Constant (.str x) j pos) pos') uNext := ⟨_, ps_doc, fun _ _ H ad S _ _ R sl h k => k.nx _ _ H ad S R (Nx.refl _ _ _) sl h⟩
theorem s3_pass : PS3 X Z (.Pass pos) uNext := ⟨_, ps_pass, fun _ _ H ad S _ _ R sl h k => k.nx _ _ H ad S R (Nx.refl _ _ _) sl h⟩
theorem s3_break : PS3 X Z (.Break pos) (fun D σ S => D.bk σ S) := ⟨_, ps_break, fun _ _ H ad S _ _ R sl h k => k.bk _ _ H ad S R (Nx.refl _ _ _) sl h⟩
theorem s3_continue : PS3 X Z (.Continue pos) (fun D σ S => D.ct σ S) := ⟨_, ps_continue, fun _ _ H ad S _ _ R sl h k => k.ct _ _ H ad S R (Nx.refl _ _ _) sl h⟩
theorem s3_if {c : Expr} {a b : List Stmt} {tc : TT3} {ta tb : TS3} (hc : PT3 X Z c th0 tc) (ha : PSs3 X Z a ta) (hb : PSs3 X Z b tb) : PS3 X Z (.If c a b pos) (uIfS tc ta tb) := by
  obtain ⟨p, hc⟩ := hc
  obtain ⟨q1, p1, ha⟩ := ha.ex
  obtain ⟨q2, p2, hb⟩ := hb.ex
  refine ⟨_, ps_if p p1 p2, ?_⟩
  intro σ σi H ad S D D3 R sl z k
  refine hc σ σi H ad S _ _ R sl z ?_
  intro b H1 ad1 S1 R1 n1 z1
  cases b with
  | true => exact ha σ σi H1 ad1 S1 D D3 R1 (sl.go n1) z1 (k.go n1)
  | false => exact hb σ σi H1 ad1 S1 D D3 R1 (sl.go n1) z1 (k.go n1)
theorem g3_name {i : Nat} {x : Str} (hN : X.N.Nodup) (hi : X.N[i]? = some x) (hx : L2.Loc X.env.scope x) (hf : X.fn x = true ∨ X.env.scope.names.lookup x = some .local := by first | exact .inl rfl | exact .inr rfl | assumption) : PG3 X Z (.Name x pos) (kName i) := by
  refine ⟨_, pg_name hN hi hx hf, ?_⟩
  intro v it σ σi H ad S N N3 R sl hv z k
  exact k _ _ H ad S R (Nx.refl _ _ _) (sl.set i hv) z
theorem s3_asg {tg : Expr} {g : TG3} (h : PE3 X Z e th0 u) (hg : PG3 X Z tg g) (hs : swapsWithSole [tg] e pos.line X.env = pure false := by rfl) (hw : swappedStores [tg] e X.env = pure none := by rfl)
    (h1 : (assignEach [tg] X.env).map (·.2) = [assign tg X.env] := by rfl) : PS3 X Z (.Assign [tg] e pos) (uAsg u g) := by
  obtain ⟨p, h⟩ := h
  obtain ⟨q2, p2, hg⟩ := hg.ex
  refine ⟨_, ps_asg p p2 hs hw h1, ?_⟩
  intro σ σi H ad S D D3 R sl z k
  refine h σ σi H ad S _ _ R sl z ?_
  intro v H1 ad1 S1 it R1 n1 i1 z1
  exact hg v it σ σi H1 ad1 S1 _ _ R1 (sl.go n1) i1 z1 (k.nx.go n1)
theorem s3_set {i : Nat} {x : Str} {pos' : Pos} (hN : X.N.Nodup) (hi : X.N[i]? = some x) (hx : L2.Loc X.env.scope x) (he : PE3 X Z e th0 u) (hs : swapsWith e (some (.Name x pos')) pos.line X.env = pure false := by rfl)
    (hf : X.fn x = true ∨ X.env.scope.names.lookup x = some .local := by first | exact .inl rfl | exact .inr rfl | assumption) : PS3 X Z (.Assign [.Name x pos'] e pos) (uAsg u (kName i)) := by
  obtain ⟨p, h⟩ := he
  refine ⟨_, ps_set hN hi hx p hs hf, ?_⟩
  intro σ σi H ad S D D3 R sl z k
  refine h σ σi H ad S _ _ R sl z ?_
  intro v H1 ad1 S1 it R1 n1 i1 z1
  exact k.nx _ _ H1 ad1 S1 R1 n1 ((sl.go n1).set i i1) z1
/-- a, b = x, y -/
def uPar (i j : Nat) (ua : TA3) : TS3 := fun D σ S => ua σ S fun its S1 => ∃ x y, its = [x, y] ∧ D.nx ((σ.set i (some x)).set j (some y)) S1
theorem s3_par {i j : Nat} {x y : Str} {a b : Expr} {ua : TA3} {px py pt : Pos} {kt k2 pt2} (hc : X.calm = true) (hN : X.N.Nodup) (hi : X.N[i]? = some x) (hj : X.N[j]? = some y) (hij : i ≠ j)
    (hx : X.env.scope.names.lookup x = some .local) (hy : X.env.scope.names.lookup y = some .local) (ha : PA3 X Z [a, b] th0 ua)
    (hw : swappedStores [.Tuple [.Name x px, .Name y py] kt pt] (.Tuple [a, b] k2 pt2) X.env = pure (some [x, y]))
    (hs : swapsWithSole [.Tuple [.Name x px, .Name y py] kt pt] (.Tuple [a, b] k2 pt2) pos.line X.env = pure false := by rfl) :
    PS3 X Z (.Assign [.Tuple [.Name x px, .Name y py] kt pt] (.Tuple [a, b] k2 pt2) pos) (uPar i j ua) := by
  obtain ⟨p, h⟩ := ha
  refine ⟨_, ps_par hc hN hi hj hij hx hy p hw hs, ?_⟩
  intro σ σi H ad S D D3 R sl z k
  refine h σ σi H ad S _ _ R sl z ?_
  rintro vs H1 ad1 S1 its R1 n1 p1 ⟨x, y, rfl, z1⟩
  obtain ⟨v, w', rfl, i1, i2⟩ := pr2 p1
  exact ⟨v, w', rfl, k.nx _ _ H1 ad1 S1 R1 n1 (((sl.go n1).set i i1).set j i2) z1⟩
/-- xs[i] = v -/
def kSubL (uo ui : TE3) : TG3 := fun v σ S N => uo σ S fun o S1 => ui σ S1 fun i S2 => ∃ c its j, o = .l c ∧ S2 c = some (.lst its) ∧ (∃ z : Int, i = .d (.int z) ∧ ixN its.length z = some j) ∧ N σ (S2.put c (.lst (its.set j v)))
theorem s3_setL {o i : Expr} {uo ui : TE3} {sp : Pos} (h : PE3 X Z e th0 u) (ho : PE3 X Z o th1 uo) (hi : PE3 X Z i th2 ui) (ha : ∀ v, assign (.Subscript o i sp) X.env v = (do
      let ov ← holding [v] (eval o X.env)
      let iv ← holding [v, ov] (eval i X.env)
      standAt sp
      holding [v, ov, iv] (setItem ov iv v)
      release [v, ov, iv] []) := by intro _; rfl) (hs : swapsWithSole [.Subscript o i sp] e pos.line X.env = pure false := by rfl) (hw : swappedStores [.Subscript o i sp] e X.env = pure none := by rfl)
    (h1 : (assignEach [.Subscript o i sp] X.env).map (·.2) = [assign (.Subscript o i sp) X.env] := by rfl) : PS3 X Z (.Assign [.Subscript o i sp] e pos) (uAsg u (kSubL uo ui)) := by
  obtain ⟨p, h⟩ := h
  obtain ⟨p2, ho⟩ := ho
  obtain ⟨p3, hi⟩ := hi
  refine ⟨_, ps_asg p (pg_sub p2 p3 set_list ha) hs hw h1, ?_⟩
  intro σ σi H ad S D D3 R sl z k
  refine h σ σi H ad S _ _ R sl z ?_
  intro v H1 ad1 S1 it R1 n1 i1 z1
  refine ho σ σi H1 ad1 S1 _ _ R1 (sl.go n1) z1 ?_
  intro ov H2 ad2 S2 io R2 n2 i2 z2
  refine hi σ σi H2 ad2 S2 _ _ R2 ((sl.go n1).go n2) z2 ?_
  rintro iv H3 ad3 S3 ii R3 n3 i3 ⟨c, its, j, rfl, hc, ⟨zi, rfl, hj⟩, z3⟩
  obtain ⟨rfl, hdom⟩ := n3.it i2
  obtain ⟨xs, h2, h3⟩ := R3.at_ c _ hc
  have iv' := n3.it (n2.it i1)
  have hdn : S3 c ≠ none := hdom
  have n4 : Nx H3 ad3 S3 (upd H3 (ad3 c) (.lst (xs.set j v))) ad3 (S3.put c (.lst (its.set j it))) := ⟨Tk.at_ h2 (fun _ y => by cases y), fun _ y => ⟨rfl, put_dom y⟩⟩
  obtain ⟨R4, _⟩ := R3.write hdn (o := .lst (xs.set j v)) (e := .lst (its.set j it)) ⟨_, upd_same, pr_set (n4.it iv') j (pr_go h3 n4)⟩
  refine ⟨_, xs, zi, j, rfl, Dt.intI i3, h2, by rw [Paired.length h3]; exact hj, ?_⟩
  exact k.nx σ σi _ ad3 _ R4 (((n1.trans n2).trans n3).trans n4) ((((sl.go n1).go n2).go n3).go n4) z3
end
end L3
end
section
set_option Elab.async false
set_option maxRecDepth 100000
set_option maxHeartbeats 1000000
namespace L3
open PySem PySem.Spec PyProof.Rows L2 Mx So

/-! ### dicts are written -/
def uDPutK (ud uk uv : TE3) : TS3 := fun D σ S => uv σ S fun v S1 => ud σ S1 fun x S2 => uk σ S2 fun y S3 => ∃ c kvs k, x = .l c ∧ y = .d (kD k) ∧ S3 c = some (.dk kvs) ∧ kvs.length < sizeLine ∧ D.nx σ (S3.put c (.dk (putI kvs k v)))
def uDPutT (ud uk uv : TE3) : TS3 := fun D σ S => uv σ S fun v S1 => ud σ S1 fun x S2 => uk σ S2 fun y S3 => ∃ c kvs ks, x = .l c ∧ y = .d (.tuple (ks.map kD)) ∧ ks.length ≠ 1 ∧ S3 c = some (.dt kvs) ∧ kvs.length < sizeLine ∧ D.nx σ (S3.put c (.dt (putI kvs ks v)))
def uDPutM (ud uk uv : TE3) : TS3 := fun D σ S => uv σ S fun v S1 => ud σ S1 fun x S2 => uk σ S2 fun y S3 => ∃ c kvs x', x = .l c ∧ y = .d (.str x') ∧ S3 c = some (.mx kvs) ∧ kvs.length < sizeLine ∧ D.nx σ (S3.put c (.mx (putI kvs (.inl x') v)))
section
variable {X : Cx} {Z : ZZ} {o i value : Expr} {pos pos' : Pos} {ud uk uv : TE3}
theorem s3_dputK (hu : X.A.units + 1 < cLine) (ho : PE3 X Z o tho ud) (hi : PE3 X Z i thi uk) (hv : PE3 X Z value thv uv) (hs : swapsWith value (some (.Subscript o i pos')) pos.line X.env = pure false := by rfl) : PS3 X Z (.Assign [.Subscript o i pos'] value pos) (uDPutK ud uk uv) := by
  obtain ⟨p1, ho⟩ := ho
  obtain ⟨p2, hi⟩ := hi
  obtain ⟨p3, hv⟩ := hv
  refine ⟨_, ps_dput hu p1 p2 p3 hs, ?_⟩
  intro σ σi H ad S D D3 R sl z k
  refine hv σ σi H ad S _ _ R sl z ?_
  intro v H1 ad1 S1 iv R1 n1 i1 z1
  refine ho σ σi H1 ad1 S1 _ _ R1 (sl.go n1) z1 ?_
  intro x H2 ad2 S2 ix R2 n2 i2 z2
  refine hi σ σi H2 ad2 S2 _ _ R2 ((sl.go n1).go n2) z2 ?_
  rintro y H3 ad3 S3 iy R3 n3 i3 ⟨c, kvs, kk, rfl, rfl, hc, hl, z3⟩
  obtain ⟨rfl, hdom⟩ := n3.it i2
  obtain ⟨ps, h2, h3⟩ := R3.at_ c _ hc
  have iv' := n3.it (n2.it i1)
  have n4 : Nx H3 ad3 S3 (upd H3 (ad3 c) (.dK (putK ps kk v))) ad3 (S3.put c (.dk (putI kvs kk iv))) := ⟨Tk.at_ h2 (fun _ y => by cases y), fun _ y => ⟨rfl, put_dom y⟩⟩
  obtain ⟨R4, _⟩ := R3.write hdom (o := .dK (putK ps kk v)) (e := .dk (putI kvs kk iv)) ⟨_, upd_same, kv_put (pr_map h3 fun _ _ q => ⟨q.1, n4.it q.2⟩) (n4.it iv')⟩
  rw [Dt.kd i3]
  exact ⟨_, _, rfl, DPut.k h2 (by rw [Paired.length h3]; exact hl), k.nx σ σi _ ad3 _ R4 (((n1.trans n2).trans n3).trans n4) ((((sl.go n1).go n2).go n3).go n4) z3⟩
theorem s3_dputT (hu : X.A.units + 1 < cLine) (ho : PE3 X Z o tho ud) (hi : PE3 X Z i thi uk) (hv : PE3 X Z value thv uv) (hs : swapsWith value (some (.Subscript o i pos')) pos.line X.env = pure false := by rfl) : PS3 X Z (.Assign [.Subscript o i pos'] value pos) (uDPutT ud uk uv) := by
  obtain ⟨p1, ho⟩ := ho
  obtain ⟨p2, hi⟩ := hi
  obtain ⟨p3, hv⟩ := hv
  refine ⟨_, ps_dput hu p1 p2 p3 hs, ?_⟩
  intro σ σi H ad S D D3 R sl z k
  refine hv σ σi H ad S _ _ R sl z ?_
  intro v H1 ad1 S1 iv R1 n1 i1 z1
  refine ho σ σi H1 ad1 S1 _ _ R1 (sl.go n1) z1 ?_
  intro x H2 ad2 S2 ix R2 n2 i2 z2
  refine hi σ σi H2 ad2 S2 _ _ R2 ((sl.go n1).go n2) z2 ?_
  rintro y H3 ad3 S3 iy R3 n3 i3 ⟨c, kvs, kk, rfl, rfl, hk1, hc, hl, z3⟩
  obtain ⟨rfl, hdom⟩ := n3.it i2
  obtain ⟨ps, h2, h3⟩ := R3.at_ c _ hc
  obtain ⟨b, rfl, hb⟩ := Dt.key i3 hk1
  have iv' := n3.it (n2.it i1)
  have n4 : Nx H3 ad3 S3 (upd H3 (ad3 c) (.dT (putK ps kk v))) ad3 (S3.put c (.dt (putI kvs kk iv))) := ⟨Tk.at_ h2 (fun _ y => by cases y), fun _ y => ⟨rfl, put_dom y⟩⟩
  obtain ⟨R4, _⟩ := R3.write hdom (o := .dT (putK ps kk v)) (e := .dt (putI kvs kk iv)) ⟨_, upd_same, kv_put (pr_map h3 fun _ _ q => ⟨q.1, n4.it q.2⟩) (n4.it iv')⟩
  exact ⟨_, _, rfl, DPut.t h2 hb (by rw [Paired.length h3]; exact hl), k.nx σ σi _ ad3 _ R4 (((n1.trans n2).trans n3).trans n4) ((((sl.go n1).go n2).go n3).go n4) z3⟩
theorem keys_put {κ : Type} [DecidableEq κ] {ps : List (κ × V)} {k : κ} {v : V} {p : κ × V} (h : p ∈ putK ps k v) : p.1 = k ∨ ∃ q ∈ ps, q.1 = p.1 := by
  unfold putK at h
  split at h
  · obtain ⟨q, hq, e⟩ := List.mem_map.mp h
    by_cases c : q.1 = k
    · rw [if_pos c] at e
      subst e
      exact .inl c
    · rw [if_neg c] at e
      subst e
      exact .inr ⟨q, hq, rfl⟩
  · rcases List.mem_append.mp h with h | h
    · exact .inr ⟨p, h, rfl⟩
    · have e := List.mem_singleton.mp h
      subst e
      exact .inl rfl
theorem hasT_put {ps : List (GK × V)} {k : GK} {v : V} (h : HasT ps) : HasT (putK ps k v) := by
  obtain ⟨p, hp, ks, e⟩ := h
  unfold putK
  by_cases c : (ps.any fun kv => decide (kv.1 = k)) = true
  · rw [if_pos c]
    refine ⟨if p.1 = k then (p.1, v) else p, List.mem_map.mpr ⟨p, hp, rfl⟩, ks, ?_⟩
    by_cases d : p.1 = k
    · rw [if_pos d]
      exact e
    · rw [if_neg d]
      exact e
  · rw [if_neg c]
    exact ⟨p, List.mem_append_left _ hp, ks, e⟩
theorem s3_dputM (hu : X.A.units + 1 < cLine) (ho : PE3 X Z o tho ud) (hi : PE3 X Z i thi uk) (hv : PE3 X Z value thv uv) (hs : swapsWith value (some (.Subscript o i pos')) pos.line X.env = pure false := by rfl) : PS3 X Z (.Assign [.Subscript o i pos'] value pos) (uDPutM ud uk uv) := by
  obtain ⟨p1, ho⟩ := ho
  obtain ⟨p2, hi⟩ := hi
  obtain ⟨p3, hv⟩ := hv
  refine ⟨_, ps_mput hu p1 p2 p3 hs, ?_⟩
  intro σ σi H ad S D D3 R sl z k
  refine hv σ σi H ad S _ _ R sl z ?_
  intro v H1 ad1 S1 iv R1 n1 i1 z1
  refine ho σ σi H1 ad1 S1 _ _ R1 (sl.go n1) z1 ?_
  intro x H2 ad2 S2 ix R2 n2 i2 z2
  refine hi σ σi H2 ad2 S2 _ _ R2 ((sl.go n1).go n2) z2 ?_
  rintro y H3 ad3 S3 iy R3 n3 i3 ⟨c, kvs, kk, rfl, rfl, hc, hl, z3⟩
  obtain ⟨rfl, hdom⟩ := n3.it i2
  obtain ⟨ps, bs, h2, hk, ht, h3⟩ := R3.at_ c _ hc
  have iv' := n3.it (n2.it i1)
  have ne : ∀ xs, MxO X.prog X.w (ad3 c) ps bs ≠ .tup xs := fun _ y => by
    unfold MxO at y
    cases y
  have n4 : Nx H3 ad3 S3 (upd H3 (ad3 c) (MxO X.prog X.w (ad3 c) (putK ps (.inl kk) v) bs)) ad3 (S3.put c (.mx (putI kvs (.inl kk) iv))) := ⟨Tk.at_ h2 ne, fun _ y => ⟨rfl, put_dom y⟩⟩
  have hk' : KeysAt (upd H3 (ad3 c) (MxO X.prog X.w (ad3 c) (putK ps (.inl kk) v) bs)) (putK ps (.inl kk) v) bs := by
    intro p hp ks e
    rcases keys_put hp with e2 | ⟨q, hq, e2⟩
    · rw [e2] at e
      cases e
    · exact n4.tk _ _ (hk q hq ks (e2.trans e))
  obtain ⟨R4, _⟩ := R3.write hdom (o := MxO X.prog X.w (ad3 c) (putK ps (.inl kk) v) bs) (e := .mx (putI kvs (.inl kk) iv)) ⟨_, bs, upd_same, hk', hasT_put ht, kv_put (pr_map h3 fun _ _ q => ⟨q.1, n4.it q.2⟩) (n4.it iv')⟩
  exact ⟨_, ps, bs, .inl kk, rfl, h2, hk, .inl ht, Dt.strI i3, fun _ e => (nomatch e), by rw [Paired.length h3]; exact hl, k.nx σ σi _ ad3 _ R4 (((n1.trans n2).trans n3).trans n4) ((((sl.go n1).go n2).go n3).go n4) z3⟩
end

/-! ### append -/
def oApp : Im → List Im → Sto → K3 → Prop := fun x vs S Q => ∃ c its y, x = .l c ∧ vs = [y] ∧ S c = some (.lst its) ∧ its.length < sizeLine ∧ Q (.d .none) (S.put c (.lst (its ++ [y])))
def uBMl (r : Im → List Im → Sto → K3 → Prop) (uo : TE3) (ua : TA3) : TE3 := fun σ S Q => uo σ S fun x S1 => (∃ c its, x = .l c ∧ S1 c = some (.lst its)) ∧ ua σ S1 fun xs S2 => r x xs S2 Q
section
variable {X : Cx} {Z : ZZ} {o e : Expr} {es : List Expr} {uo : TE3} {ua : TA3} {apos cpos : Pos}
theorem e3_app (ho : PE3 X Z o tho uo) (ha : PA3 X Z [e] tha ua) (hbase : attributeBase o "append" X.env (eval o X.env) = eval o X.env := by rfl)
    (hfew : ((backTo cpos (starEach [e] X.env)).all (fun x => !x.1) && (backToKw cpos (keywordEach [] X.env)).all (fun x => x.1.isSome)
      && decide ([e].length + ([] : List Keyword).length + (if ([] : List Keyword).isEmpty then 0 else 1) < 30)) = true := by rfl)
    (hline : (apos.endLine == cpos.line) = true := by rfl) (hs : starEach [e] X.env = (false, eval e X.env) :: starEach [] X.env := by rfl) (hplain : (backTo cpos (starEach [] X.env)).any (·.1) = false := by rfl) :
    PE3 X Z (.Call (.Attribute o "append" apos) [e] [] cpos) (tBM X.K "list" rAppend tho tha) (uBMl oApp uo ua) := by
  obtain ⟨p1, ho⟩ := ho
  obtain ⟨p2, ha⟩ := ha
  refine ⟨pe_bm PySem.F.plainAttrs_list PySem.F.slot_list_append PySem.F.type_list_append mt_append p1 p2 hbase hfew hline hs hplain, ?_⟩
  intro σ σi H ad S Q Q3 R sl z k
  refine ho σ σi H ad S _ _ R sl z ?_
  rintro x H1 ad1 S1 ix R1 n1 i1 ⟨⟨c0, its0, rfl, hc0⟩, z1⟩
  obtain ⟨e0, hd0⟩ := i1
  obtain ⟨xs0, h0, _⟩ := R1.at_ c0 _ hc0
  refine ⟨by rw [e0]; exact .inl ⟨rfl, xs0, SqL.of h0⟩, ?_⟩
  refine ha σ σi H1 ad1 S1 _ _ R1 (sl.go n1) z1 ?_
  rintro vs H2 ad2 S2 ixs R2 n2 p2 ⟨c, its, y, ec, rfl, hc, hl, z2⟩
  injection ec with ec
  subst ec
  obtain ⟨v, rfl, iv⟩ := pr1 p2
  obtain ⟨xs, h2, h3⟩ := R2.at_ c0 _ hc
  obtain ⟨e1, hdom⟩ := n2.st c0 hd0
  rw [← e1] at e0
  subst e0
  have n4 : Nx H2 ad2 S2 (upd H2 (ad2 c0) (.lst (xs ++ [v]))) ad2 (S2.put c0 (.lst (its ++ [y]))) := ⟨Tk.at_ h2 (fun _ y => by cases y), fun _ y => ⟨rfl, put_dom y⟩⟩
  obtain ⟨R4, _⟩ := R2.write hdom (o := .lst (xs ++ [v])) (e := .lst (its ++ [y])) ⟨_, upd_same, Paired.app (pr_go h3 n4) (.cons (n4.it iv) .nil)⟩
  exact ⟨_, xs, v, rfl, rfl, h2, by rw [Paired.length h3]; exact hl, k .non _ ad2 _ (.d .none) R4 ((n1.trans n2).trans n4) Dt.non z2⟩
end

/-! ### what a loop walks -/
structure Wk where
  n : Nat
  item : Nat → Im → Prop
  ok : Sto → Prop
abbrev TI3 := St3 → Sto → (Wk → Sto → Prop) → Prop
/-- from (H, ad, S) on the iterator gives the items -/
def Cor (P : Program) (w : World) (H : Hp) (ad : L → Addr) (S : Sto) (J : L2.It) (W : Wk) : Prop := ∀ H' ad' S', Rep P w H' ad' S' → Nx H ad S H' ad' S' → W.ok S' → ∀ i,
  (i < W.n → J.go i H' ∧ ∀ x H'', J.yld i H' x H'' → ∃ ad'' S'' it, Rep P w H'' ad'' S'' ∧ Nx H' ad' S' H'' ad'' S'' ∧ ItAt H'' ad'' S'' x it ∧ W.item i it ∧ S'' = S') ∧ (W.n ≤ i → J.stop i H')
def UpI (P : Program) (w : World) (Z : ZZ) (t : TI) (u : TI3) : Prop := ∀ σ σi H ad S R R3, Rep P w H ad S → Slots P w Z H ad S σ σi → u σi S R3 →
  (∀ J W H' ad' S', Rep P w H' ad' S' → Nx H ad S H' ad' S' → Cor P w H' ad' S' J W → R3 W S' → R J H') → t σ H R
structure PI3 (X : Cx) (Z : ZZ) (tg iter : Expr) (t : TI) (u : TI3) : Prop where
  pi : PI X tg iter t
  up : UpI X.prog X.w Z t u
/-- a list's cell, a tuple, a range -/
def wL (u : TE3) : TI3 := fun σ S R => u σ S fun x S1 => ∃ c its, x = .l c ∧ S1 c = some (.lst its) ∧ R ⟨its.length, fun i it => its[i]? = some it, fun S => S c = some (.lst its)⟩ S1
def wT (u : TE3) : TI3 := fun σ S R => u σ S fun x S1 => ∃ ds, x = .d (.tuple ds) ∧ R ⟨ds.length, fun i it => ∃ d, ds[i]? = some d ∧ it = .d d, fun _ => True⟩ S1
def wR (ua : TA3) : TI3 := fun σ S R => ua σ S fun xs S1 => ∃ n : Nat, xs = [.d (.int n)] ∧ (n : Int) < 2 ^ 62 ∧ R ⟨n, fun i it => it = .d (.int i), fun _ => True⟩ S1
section
variable {X : Cx} {Z : ZZ} {tg e : Expr} {u : TE3} {pos : Pos}
theorem i3_list (h : PE3 X Z e th u) : PI3 X Z tg e (iList X.K th) (wL u) := by
  obtain ⟨p, h⟩ := h
  refine ⟨pi_list p, ?_⟩
  intro σ σi H ad S R R3 rep sl z k
  refine h σ σi H ad S _ _ rep sl z ?_
  rintro v H1 ad1 S1 it R1 n1 i1 ⟨c, its, rfl, hc, z1⟩
  obtain ⟨rfl, hd⟩ := i1
  obtain ⟨xs, h1, h2⟩ := R1.at_ c _ hc
  refine ⟨_, rfl, ⟨xs, SqL.of h1⟩, k _ _ H1 ad1 S1 R1 n1 ?_ z1⟩
  intro H' ad' S' R' n' ok i
  obtain ⟨xs', h1', h2'⟩ := R'.at_ c _ ok
  rw [(n'.st c hd).1] at h1'
  refine ⟨fun hi => ?_, fun hi => ⟨xs', SqL.of h1', ?_⟩⟩
  · have hi' : i < its.length := hi
    obtain ⟨v, hv, iv⟩ := pr_get h2' (List.getElem?_eq_getElem hi')
    refine ⟨⟨xs', v, SqL.of h1', hv⟩, ?_⟩
    rintro x H'' ⟨rfl, hx⟩
    have ex : x = v := by
      have q := hx xs' (SqL.of h1')
      rw [hv] at q
      exact (Option.some.inj q).symm
    subst ex
    exact ⟨ad', S', _, R', Nx.refl _ _ _, iv, List.getElem?_eq_getElem hi', rfl⟩
  · rw [Paired.length h2']
    exact hi
theorem i3_tup (h : PE3 X Z e th u) : PI3 X Z tg e (iTup X.K th) (wT u) := by
  obtain ⟨p, h⟩ := h
  refine ⟨pi_tup p, ?_⟩
  intro σ σi H ad S R R3 rep sl z k
  refine h σ σi H ad S _ _ rep sl z ?_
  rintro v H1 ad1 S1 it R1 n1 i1 ⟨ds, rfl, z1⟩
  obtain ⟨a, xs, rfl, h1, h2⟩ := Dt.tupI i1
  refine ⟨_, rfl, ⟨xs, h1.sq⟩, k _ _ H1 ad1 S1 R1 n1 ?_ z1⟩
  intro H' ad' S' R' n' ok i
  have h1' := n'.tk _ _ h1
  have h2' := dts_pr (Dts.mono n'.tk ds h2)
  refine ⟨fun hi => ?_, fun hi => ⟨xs, h1'.sq, ?_⟩⟩
  · have hi' : i < ds.length := hi
    obtain ⟨v, hv, iv⟩ := pr_get h2' (List.getElem?_eq_getElem hi')
    refine ⟨⟨xs, v, h1'.sq, hv⟩, ?_⟩
    rintro x H'' ⟨rfl, hx⟩
    have ex : x = v := by
      have q := hx xs (h1'.sq)
      rw [hv] at q
      exact (Option.some.inj q).symm
    subst ex
    exact ⟨ad', S', .d ds[i], R', Nx.refl _ _ _, iv, ⟨_, List.getElem?_eq_getElem hi', rfl⟩, rfl⟩
  · rw [Paired.length h2']
    exact hi
theorem i3_range {p : Pos} {ua : TA3} (hg : Gl X "range") (hm : X.mg "range" = none) (h : PA3 X Z [e] th ua) (hs : starEach [e] X.env = [(false, eval e X.env)] := by rfl) : PI3 X Z tg (.Call (.Name "range" p) [e] [] pos) (iRng1 th) (wR ua) := by
  obtain ⟨pp, h⟩ := h
  refine ⟨pi_range1 hg hm pp hs, ?_⟩
  intro σ σi H ad S R R3 rep sl z k
  refine h σ σi H ad S _ _ rep sl z ?_
  rintro vs H1 ad1 S1 its R1 n1 p1 ⟨n, rfl, hn, z1⟩
  obtain ⟨v, rfl, iv⟩ := pr1 p1
  have ev := Dt.intI iv
  subst ev
  refine ⟨_, rfl, by omega, hn, k _ _ H1 ad1 S1 R1 n1 ?_ z1⟩
  intro H' ad' S' R' n' ok i
  refine ⟨fun hi => ⟨?_, ?_⟩, fun hi => ?_⟩
  · show i < (n : Int).toNat
    have : i < n := hi
    omega
  · rintro x H'' ⟨rfl, rfl⟩
    refine ⟨ad', S', .d (.int i), R', Nx.refl _ _ _, ?_, rfl, rfl⟩
    have e : (0 : Int) + (i : Int) = i := by omega
    rw [e]
    exact Dt.int _
  · show (n : Int).toNat ≤ i
    have : n ≤ i := hi
    omega
/-! ### for -/
def uFor (wi : TI3) (g : TG3) (tb : TS3) : TS3 := fun D σ S => wi σ S fun W S1 => ∃ I : Nat → St3 → Sto → Prop, I 0 σ S1 ∧ (∀ i σ S, i ≤ W.n → I i σ S → W.ok S) ∧
  (∀ i it σ S, i < W.n → W.item i it → I i σ S → g it σ S fun σ2 S2 => tb { D with nx := I (i + 1), ct := I (i + 1), bk := D.nx } σ2 S2) ∧ ∀ σ S, I W.n σ S → D.nx σ S
theorem s3_for {iter : Expr} {body : List Stmt} {wi : TI3} {g : TG3} {tb : TS3} (hp : PassesOwn (model X.prog X.w) X.A X.env X.xe) (hc : X.calm = true) (hi : PI3 X Z tg iter ti wi) (hg : PG3 X Z tg g) (hb : PSs3 X Z body tb)
    (hs : ∀ x, foldedSetIterable iter X.env x = pure x := by intro _; rfl) : PS3 X Z (.For tg iter body [] pos) (uFor wi g tb) := by
  obtain ⟨p1, hi⟩ := hi
  obtain ⟨q2, p2, hg⟩ := hg.ex
  obtain ⟨q3, p3, hb⟩ := hb.ex
  refine ⟨_, ps_for hp hc p1 p2 p3 hs, ?_⟩
  intro σ σi H ad S D D3 R sl z k
  refine hi σ σi H ad S _ _ R sl z ?_
  rintro J W H1 ad1 S1 R1 n1 cor ⟨I, z0, zok, zt, ze⟩
  refine ⟨fun i m σ' H' => m = W.n - i ∧ i ≤ W.n ∧ ∃ ad' S' σi', Rep X.prog X.w H' ad' S' ∧ Nx H1 ad1 S1 H' ad' S' ∧ Slots X.prog X.w Z H' ad' S' σ' σi' ∧ I i σi' S', ⟨W.n, by simp, Nat.zero_le _, ad1, S1, σi, R1, Nx.refl _ _ _, sl.go n1, z0⟩, ?_⟩
  rintro i m σ' H' ⟨rfl, hi, ad', S', σi', R', n', sl', z'⟩
  obtain ⟨c1, c2⟩ := cor H' ad' S' R' n' (zok i σi' S' hi z') i
  by_cases hlt : i < W.n
  · obtain ⟨g1, g2⟩ := c1 hlt
    refine .inr ⟨g1, fun σ2 H2 => ∃ ad2 S2 σi2, Rep X.prog X.w H2 ad2 S2 ∧ Nx H1 ad1 S1 H2 ad2 S2 ∧ Slots X.prog X.w Z H2 ad2 S2 σ2 σi2 ∧ I (i + 1) σi2 S2, ?_, ?_⟩
    · intro σ2 H2 h2
      exact ⟨W.n - (i + 1), by omega, rfl, hlt, h2⟩
    · intro x H2 y2
      obtain ⟨ad2, S2, it, R2, n2, i2, w2, rfl⟩ := g2 x H2 y2
      refine hg x it σ' σi' H2 ad2 S2 _ _ R2 (sl'.go n2) i2 (zt i it σi' S2 hlt w2 z') ?_
      intro σ3 σi3 H3 ad3 S3 R3 n3 sl3 z3
      refine hb σ3 σi3 H3 ad3 S3 _ _ R3 sl3 z3 ?_
      have n03 := (n'.trans n2).trans n3
      refine ⟨?_, (k.go n1).rt.go n03, (k.go n1).nx.go n03, ?_⟩
      · intro σ4 σi4 H4 ad4 S4 R4 n4 sl4 z4
        exact ⟨ad4, S4, σi4, R4, n03.trans n4, sl4, z4⟩
      · intro σ4 σi4 H4 ad4 S4 R4 n4 sl4 z4
        exact ⟨ad4, S4, σi4, R4, n03.trans n4, sl4, z4⟩
  · have e : i = W.n := by omega
    subst e
    exact .inl ⟨c2 (Nat.le_refl _), k.nx σ' σi' H' ad' S' R' (n1.trans n') sl' (ze σi' S' z')⟩
end
end L3
end
section
set_option Elab.async false
set_option maxRecDepth 100000
set_option maxHeartbeats 1000000
namespace L3
open PySem PySem.Spec PyProof.Rows L2 Mx So

/-! ### a def by its body, over the store -/
def start3 (N : List Str) (its : List Im) : St3 := its.map some ++ List.replicate (N.length - its.length) none
theorem slots_start {H : Hp} {ad : L → Addr} {S : Sto} {N : List Str} {vs : List V} {its : List Im} (p : Paired (ItAt H ad S) vs its) : Slt H ad S (L2.start N vs) (start3 N its) := by
  unfold L2.start start3
  rw [Paired.length p]
  refine Paired.app ?_ ?_
  · induction p with
    | nil => exact .nil
    | cons h _ ih => exact .cons h ih
  · generalize N.length - its.length = n
    induction n with
    | zero => exact .nil
    | succ n ih =>
      rw [List.replicate_succ, List.replicate_succ]
      exact .cons True.intro ih
/-- what a def wishes of an exception -/
def zOf (E : XK) (E3 : XK3) : ZZ := ⟨fun c d _ H => E c d H, fun c _ S => E3 c S⟩
section
variable {P : Program} {w : World} {K : PySem.W.Frag} {mg : Str → Option Value} {base : Heap}
theorem ok3 {x qual : Str} {st : Stmt} {f : Addr} {fd : FuncData} {N ps : List Str} {k : Nat} {sp : Sp3} (F : Fun K x qual st f fd) (S : FnScope N ps (defScope st)) (len : ∀ its St Q E, sp its St Q E → its.length = ps.length)
    (hbody : ∀ (cdv : Value) (A : Around) (outer : List Env) (s : Shared) (H : Hp) (E : XK) (E3 : XK3), Room k (A.deeper (envOfC qual (defScope st) s.heap.objs.size f cdv)) →
      ∃ u, PSs3 (cxOf (LT.CX P w) P w K mg base N qual (defScope st) f cdv A outer s H E) (zOf E E3) (defBody st) u ∧
        ∀ its St Q3, sp its St Q3 E3 → u { nx := fun _ S' => Q3 (.d .none) S', rt := Q3 } (start3 N its) St) :
    FnOk P w K mg base (LT.CX P w) (k + 1) f fd ps (spOf P w sp) := by
  refine LT.okX F S ?_ ?_
  · rintro vs H Q E ⟨ad, St, its, Q3, E3, R, p, h, _, _⟩
    rw [Paired.length p]
    exact len its St Q3 E3 h
  · rintro cdv A outer s H vs Q E hr ⟨ad, St, its, Q3, E3, R, p, h, kq, kx⟩
    obtain ⟨u, hu, hq⟩ := hbody cdv A outer s H E E3 hr
    obtain ⟨t, pt, up⟩ := hu.ex
    refine ⟨t, pt, ?_⟩
    refine up _ _ H ad St _ _ R ⟨slots_start p, fun c _ _ H' ad' S' R' n' _ z => kx c H' ad' S' R' n' z⟩ (hq its St Q3 h) ⟨?_, kq, ?_, ?_⟩
    · intro σ' σi' H' ad' S' R' n' sl' z
      exact kq .non H' ad' S' (.d .none) R' n' Dt.non z
    · intro σ' σi' H' ad' S' R' n' sl' z
      exact z.elim
    · intro σ' σi' H' ad' S' R' n' sl' z
      exact z.elim
end

/-! ### targets of several names -/
def setAll : List Nat → List Im → St3 → St3
  | j :: js, x :: xs, σ => setAll js xs (σ.set j (some x))
  | _, _, σ => σ
def setAllV : List Nat → List V → L2.St → L2.St
  | j :: js, x :: xs, σ => setAllV js xs (σ.set j (some x))
  | _, _, σ => σ
def gAll : List Nat → TGs
  | [] => gNil
  | j :: js => gCons (gName j) (gAll js)
theorem gAll_go : ∀ (js : List Nat) (vs : List V) (σ : L2.St) (H : Hp) (N : L2.St → Hp → Prop), vs.length = js.length → N (setAllV js vs σ) H → gAll js vs σ H N
  | [], [], _, _, _, _, h => ⟨rfl, h⟩
  | [], _ :: _, _, _, _, e, _ => by cases e
  | _ :: _, [], _, _, _, e, _ => by cases e
  | j :: js, x :: xs, σ, H, N, e, h => ⟨x, xs, rfl, gAll_go js xs _ H N (by injection e) h⟩
theorem setAll_slots {P : Program} {w : World} {Z : ZZ} {H : Hp} {ad : L → Addr} {S : Sto} : ∀ (js : List Nat) {vs : List V} {its : List Im} {σ : L2.St} {σi : St3}, Paired (ItAt H ad S) vs its → Slots P w Z H ad S σ σi → Slots P w Z H ad S (setAllV js vs σ) (setAll js its σi)
  | [], _, _, _, _, _, s => s
  | _ :: _, _, _, _, _, .nil, s => s
  | _ :: js, _, _, _, _, .cons h t, s => setAll_slots js t (s.set _ h)
/-- for a, b in ..: the item is a tuple of so many -/
def kTup (js : List Nat) : TG3 := fun it σ S N => ∃ ds, it = .d (.tuple ds) ∧ ds.length = js.length ∧ N (setAll js (ds.map .d) σ) S
theorem dts_items {H : Hp} {ad : L → Addr} {S : Sto} : ∀ {vs : List V} {ds : List PyData}, Dts H vs ds → Paired (ItAt H ad S) vs (ds.map Im.d)
  | _, _, .nil => .nil
  | _, _, .cons h t => .cons h (dts_items t)
structure PGs3 (X : Cx) (es : List Expr) (js : List Nat) : Prop where
  ex : PGs X es (gAll js)
section
variable {X : Cx} {Z : ZZ} {pos : Pos}
theorem gs3_nil : PGs3 X [] [] := ⟨pgs_nil⟩
theorem gs3_cons {i : Nat} {x : Str} {es : List Expr} {js : List Nat} (hN : X.N.Nodup) (hi : X.N[i]? = some x) (hx : L2.Loc X.env.scope x) (g : PGs3 X es js)
    (hf : X.fn x = true ∨ X.env.scope.names.lookup x = some .local := by first | exact .inl rfl | exact .inr rfl | assumption)
    (hs : (assignEach ((.Name x pos) :: es) X.env).map (·.2) = assign (.Name x pos) X.env :: (assignEach es X.env).map (·.2) := by rfl) : PGs3 X (.Name x pos :: es) (i :: js) :=
  ⟨pgs_cons (pg_name hN hi hx hf) g.ex hs⟩
theorem g3_tup {es : List Expr} {k : Nat} {js : List Nat} (hc : X.calm = true) (g : PGs3 X es js) (hn : (assignEach es X.env).length = js.length := by rfl) (hst : (assignEach es X.env).findIdx? (·.1) = none := by rfl) : PG3 X Z (.Tuple es k pos) (kTup js) := by
  refine ⟨_, pg_tup hc g.ex hn hst, ?_⟩
  rintro v it σ σi H ad S N N3 R sl hv ⟨ds, rfl, hl, z⟩ kk
  obtain ⟨a, xs, rfl, h1, h2⟩ := Dt.tupI hv
  have e := h2.len
  refine ⟨a, xs, rfl, h1.sq, by omega, gAll_go js xs σ H N (by omega) ?_⟩
  exact kk _ _ H ad S R (Nx.refl _ _ _) (setAll_slots js (dts_items h2) sl) z
end

/-! ### comprehensions -/
def wipe3 (σ : St3) : List Nat → St3
  | [] => σ
  | v :: vs => (wipe3 σ vs).set v none
theorem wipe_slots {P : Program} {w : World} {Z : ZZ} {H : Hp} {ad : L → Addr} {S : Sto} {σ : L2.St} {σi : St3} (s : Slots P w Z H ad S σ σi) : ∀ vs : List Nat, Slots P w Z H ad S (wipe σ vs) (wipe3 σi vs)
  | [] => s
  | v :: vs => (wipe_slots s vs).forget v none
theorem wipe_at (σ : L2.St) : ∀ (vs : List Nat) (i : Nat), (wipe σ vs)[i]? = if i ∈ vs then (if i < σ.length then some none else none) else σ[i]?
  | [], i => by simp [wipe]
  | v :: vs, i => by
    unfold wipe
    rw [List.getElem?_set, wipe_length, wipe_at σ vs i]
    by_cases h : v = i
    · subst h
      simp
    · have h' : ¬ i = v := fun e => h e.symm
      simp [h, h']
theorem wipe_set (σ : L2.St) (vs : List Nat) {j : Nat} (hj : j ∈ vs) (x : Option V) : wipe ((wipe σ vs).set j x) vs = wipe σ vs := by
  apply List.ext_getElem?
  intro i
  rw [wipe_at, wipe_at, List.length_set, wipe_length]
  by_cases h : i ∈ vs
  · rw [if_pos h, if_pos h]
  · rw [if_neg h, if_neg h]
    have hij : j ≠ i := fun e => h (e ▸ hj)
    rw [List.getElem?_set_ne hij, wipe_at, if_neg h]
theorem wipe_setAll (σ : L2.St) (vs : List Nat) : ∀ (js : List Nat) (xs : List V) (τ : L2.St), (∀ j ∈ js, j ∈ vs) → wipe τ vs = wipe σ vs → wipe (setAllV js xs τ) vs = wipe σ vs
  | [], _, _, _, h => by
    rename_i xs τ _
    cases xs <;> exact h
  | _ :: _, [], _, _, h => h
  | j :: js, x :: xs, τ, hs, h => by
    refine wipe_setAll σ vs js xs (τ.set j (some x)) (fun k hk => hs k (List.mem_cons_of_mem _ hk)) ?_
    rw [← h]
    apply List.ext_getElem?
    intro i
    rw [wipe_at, wipe_at, List.length_set]
    by_cases hi : i ∈ vs
    · rw [if_pos hi, if_pos hi]
    · rw [if_neg hi, if_neg hi]
      have hij : j ≠ i := fun e => hi (e ▸ hs j List.mem_cons_self)
      rw [List.getElem?_set_ne hij]
theorem wipe_wipe (σ : L2.St) (vs : List Nat) : wipe (wipe σ vs) vs = wipe σ vs := by
  apply List.ext_getElem?
  intro i
  rw [wipe_at, wipe_at, wipe_length]
  by_cases h : i ∈ vs
  · rw [if_pos h]
    all_goals first | rw [if_pos h] | skip
  · rw [if_neg h, if_neg h]
/-- the item goes to one name, or, a tuple, to several -/
inductive Tgt where
  | one (j : Nat)
  | many (js : List Nat)
def Tgt.sets : Tgt → Im → St3 → Option St3
  | .one j, it, σ => some (σ.set j (some it))
  | .many js, .d (.tuple ds), σ => if ds.length = js.length then some (setAll js (ds.map .d) σ) else none
  | .many _, _, _ => none
def Tgt.names : Tgt → List Nat
  | .one j => [j]
  | .many js => js
def Tgt.g (K : PySem.W.Frag) : Tgt → TG
  | .one j => gName j
  | .many js => gTup K js.length (gAll js)
def uLc (wi : TI3) (tg : Tgt) (tt : TT3) (te : TE3) (vs : List Nat) : TE3 := fun σ S Q => wi σ S fun W S1 => New S1 fun c => ∃ I : Nat → Sto → Prop, I 0 (S1.put c (.lst [])) ∧ (∀ i S, i ≤ W.n → I i S → W.ok S) ∧
  (∀ i it S, i < W.n → W.item i it → I i S → ∃ σ2, tg.sets it (wipe3 σ vs) = some σ2 ∧ tt σ2 S fun b S3 => if b = true then te σ2 S3 fun y S4 => ∃ acc, S4 c = some (.lst acc) ∧ acc.length < sizeLine ∧ I (i + 1) (S4.put c (.lst (acc ++ [y]))) else I (i + 1) S3) ∧
  ∀ S, I W.n S → Q (.l c) S
def uYes : TT3 := fun _ S Q => Q true S
structure PTs3 (X : Cx) (Z : ZZ) (cs : List Expr) (t : TT) (u : TT3) : Prop where
  pts : PTs X cs t
  up : UpT X.prog X.w Z t u
theorem ts3_nil {X : Cx} {Z : ZZ} : PTs3 X Z [] tYes uYes := ⟨pts_nil, fun _ _ H ad S _ _ R _ h k => k true H ad S R (Nx.refl _ _ _) h⟩
theorem ts3_one {X : Cx} {Z : ZZ} {c : Expr} {t : TT} {u : TT3} (h : PT3 X Z c t u) : PTs3 X Z [c] t u := ⟨pts_one h.pe, h.up⟩
theorem up_lc {P : Program} {w : World} {Z : ZZ} {K : PySem.W.Frag} {wi : TI} {wi3 : TI3} {tg : Tgt} {tt : TT} {tt3 : TT3} {te : TE} {te3 : TE3} {vs : List Nat} (hi : UpI P w Z wi wi3) (ht : UpT P w Z tt tt3) (he : Up P w Z te te3) (hv : ∀ j ∈ tg.names, j ∈ vs) : Up P w Z (tLc wi (tg.g K) tt te vs) (uLc wi3 tg tt3 te3 vs) := by
  intro σ σi H ad S Q Q3 R sl z k
  refine hi σ σi H ad S _ _ R sl z ?_
  rintro J W H1 ad1 S1 R1 n1 cor z1 D hD
  obtain ⟨adc, c, R2, n2, e2, f2, I, z0, zok, zt, ze⟩ := new_at (o := .lst []) (e := .lst []) R1 z1 hD fun ad' c n => ⟨[], upd_same, .nil⟩
  have hSt : (S1.put c (.lst [])) c ≠ none := by
    rw [put_same]
    exact fun y => nomatch y
  refine ⟨fun i m H' => m = W.n - i ∧ i ≤ W.n ∧ ∃ ad' S', Rep P w H' ad' S' ∧ Nx (upd H1 D (.lst [])) adc (S1.put c (.lst [])) H' ad' S' ∧ I i S', ⟨W.n, by simp, Nat.zero_le _, adc, _, R2, Nx.refl _ _ _, z0⟩, ?_⟩
  rintro i m H' ⟨rfl, hile, ad', S', R', n', z'⟩
  have n1' := n2.trans n'
  obtain ⟨c1, c2⟩ := cor H' ad' S' R' n1' (zok i S' hile z') i
  by_cases hlt : i < W.n
  · obtain ⟨g1, g2⟩ := c1 hlt
    refine .inr ⟨g1, fun H2 => ∃ ad2 S2, Rep P w H2 ad2 S2 ∧ Nx (upd H1 D (.lst [])) adc (S1.put c (.lst [])) H2 ad2 S2 ∧ I (i + 1) S2, ?_, ?_⟩
    · intro H2 h2
      exact ⟨W.n - (i + 1), by omega, rfl, hlt, h2⟩
    · intro x H2 y2
      obtain ⟨ad2, S2, it, R2', n2', i2, w2, rfl⟩ := g2 x H2 y2
      obtain ⟨σ2, hs, ztt⟩ := zt i it S2 hlt w2 z'
      have n02 := n'.trans n2'
      have slw : Slots P w Z H2 ad2 S2 (wipe σ vs) (wipe3 σi vs) := wipe_slots ((((sl.go n1).go n2).go n02)) vs
      have body : ∀ σ3 : L2.St, Slots P w Z H2 ad2 S2 σ3 σ2 → tt σ3 H2 fun b H3 => if b = true then te σ3 H3 fun y H4 => ∃ acc, H4 D = some (.lst acc) ∧ acc.length < sizeLine ∧
          ∃ ad2 S2, Rep P w (upd H4 D (.lst (acc ++ [y]))) ad2 S2 ∧ Nx (upd H1 D (.lst [])) adc (S1.put c (.lst [])) (upd H4 D (.lst (acc ++ [y]))) ad2 S2 ∧ I (i + 1) S2
          else ∃ ad2 S2, Rep P w H3 ad2 S2 ∧ Nx (upd H1 D (.lst [])) adc (S1.put c (.lst [])) H3 ad2 S2 ∧ I (i + 1) S2 := by
        intro σ3 sl3
        refine ht σ3 σ2 H2 ad2 S2 _ _ R2' sl3 ztt ?_
        intro b H3 ad3 S3 R3 n3 z3
        cases b with
        | true =>
          refine he σ3 σ2 H3 ad3 S3 _ _ R3 (sl3.go n3) z3 ?_
          rintro v H4 ad4 S4 iv R4 n4 i4 ⟨acc, ha, hl, z4⟩
          obtain ⟨xs, h5, h6⟩ := R4.at_ _ _ ha
          have e4 : ad4 c = D := (((n02.trans n3).trans n4).st c hSt).1.trans e2
          rw [e4] at h5
          have n5 : Nx H4 ad4 S4 (upd H4 D (.lst (xs ++ [v]))) ad4 (S4.put c (.lst (acc ++ [iv]))) := ⟨Tk.at_ h5 (fun _ y => by cases y), fun _ y => ⟨rfl, put_dom y⟩⟩
          have hne : S4 c ≠ none := by
            rw [ha]
            exact fun y => nomatch y
          have hw := R4.write hne (o := .lst (xs ++ [v])) (e := .lst (acc ++ [iv])) (by
            rw [e4]
            exact ⟨_, upd_same, Paired.app (pr_go h6 n5) (.cons (n5.it i4) .nil)⟩)
          rw [e4] at hw
          exact ⟨xs, h5, by rw [Paired.length h6]; exact hl, ad4, _, hw.1, ((n02.trans n3).trans n4).trans n5, z4⟩
        | false => exact ⟨ad3, S3, R3, n02.trans n3, z3⟩
      cases tg with
      | one j =>
        have e := Option.some.inj hs
        subst e
        refine ⟨wipe_set σ vs (hv j List.mem_cons_self) _, body _ (slw.set j i2)⟩
      | many js =>
        cases it with
        | l c => cases hs
        | a p => cases hs
        | d dd =>
          cases dd with
          | tuple ds =>
            have hs' : (if ds.length = js.length then some (setAll js (ds.map .d) (wipe3 σi vs)) else none) = some σ2 := hs
            by_cases hl : ds.length = js.length
            · rw [if_pos hl] at hs'
              have e := Option.some.inj hs'
              subst e
              obtain ⟨a, xs, rfl, h1, h2⟩ := Dt.tupI i2
              have e2 := h2.len
              refine ⟨a, xs, rfl, h1.sq, by omega, gAll_go js xs _ H2 _ (by omega) ?_⟩
              refine ⟨wipe_setAll σ vs js xs (wipe σ vs) hv (wipe_wipe σ vs), body _ (setAll_slots js (dts_items h2) slw)⟩
            · rw [if_neg hl] at hs'
              cases hs'
          | _ => cases hs
  · have e : i = W.n := by omega
    subst e
    refine .inl ⟨c2 (Nat.le_refl _), k _ H' ad' S' (.l c) R' (n1.trans n1') ⟨by rw [(n'.st c hSt).1, e2], (n'.st _ hSt).2⟩ (ze S' z')⟩
section
variable {X : Cx} {Z : ZZ}
/-- the target's rule in a comprehension's block -/
structure PB3 (Y : Cx) (e : Expr) (tg : Tgt) : Prop where
  ex : PG Y e (tg.g Y.K)
theorem b3_one {Y : Cx} {i : Nat} {x : Str} {pos : Pos} (hN : Y.N.Nodup) (hi : Y.N[i]? = some x) (hx : L2.Loc Y.env.scope x) (hf : Y.fn x = true ∨ Y.env.scope.names.lookup x = some .local := by first | exact .inl rfl | exact .inr rfl | assumption) : PB3 Y (.Name x pos) (.one i) := ⟨pg_name hN hi hx hf⟩
theorem b3_many {Y : Cx} {es : List Expr} {k : Nat} {js : List Nat} {pos : Pos} (hc : Y.calm = true) (g : PGs3 Y es js) (hn : (assignEach es Y.env).length = js.length := by rfl) (hst : (assignEach es Y.env).findIdx? (·.1) = none := by rfl) : PB3 Y (.Tuple es k pos) (.many js) := ⟨pg_tup hc g.ex hn hst⟩
/-- a block's reading, by where the block begins; it does not lean on that -/
abbrev Blk (α : Type) := Shared → Hp → Addr → List (Str × Addr) → List Addr → α
def Blk.any {α : Type} (b : Blk α) (s : Shared) : α := b s (fun _ => none) 0 [] []
def Blk.Fix {α : Type} (b : Blk α) (s : Shared) : Prop := ∀ s1 H C cl fp, b s1 H C cl fp = b.any s
theorem e3_lc {elt tg iter : Expr} {ifs : List Expr} {scope : Scope} {own : List (Str × Nat)} {pos : Pos} {ti : TI} {wi : TI3} {g : Tgt} {tt : Blk TT} {te : Blk TE} {tt3 : Blk TT3} {te3 : Blk TE3} (hc : X.calm = true) (hN : X.N.Nodup) (hi : PI3 X Z tg iter ti wi) (ok : BlkOk X.N X.env.scope scope own) (hv : ∀ j ∈ g.names, j ∈ own.map (·.2))
    (hg : ∀ (s : Shared) (H : Hp) (C : Addr) (cl : List (Str × Addr)) (fp : List Addr), PB3 (X.blk s H scope (compEnvC scope cl C X.env) fp) tg g)
    (ht : ∀ (s : Shared) (H : Hp) (C : Addr) (cl : List (Str × Addr)) (fp : List Addr), PTs3 (X.blk s H scope (compEnvC scope cl C X.env) fp) Z ifs (tt s H C cl fp) (tt3 s H C cl fp))
    (he : ∀ (s : Shared) (H : Hp) (C : Addr) (cl : List (Str × Addr)) (fp : List Addr), PE3 (X.blk s H scope (compEnvC scope cl C X.env) fp) Z elt (te s H C cl fp) (te3 s H C cl fp))
    (h1 : tt.Fix X.s_0 := by intros _ _ _ _ _; rfl) (h2 : tt3.Fix X.s_0 := by intros _ _ _ _ _; rfl) (h3 : te.Fix X.s_0 := by intros _ _ _ _ _; rfl) (h4 : te3.Fix X.s_0 := by intros _ _ _ _ _; rfl)
    (hs : ∀ x, foldedSetIterable iter X.env x = pure x := by intro _; rfl) : PE3 X Z (.ListComp elt [⟨tg, iter, ifs, 0⟩] scope pos) (tLc ti (g.g X.K) (tt.any X.s_0) (te.any X.s_0) (own.map (·.2))) (uLc wi g (tt3.any X.s_0) (te3.any X.s_0) (own.map (·.2))) := by
  obtain ⟨p, hi⟩ := hi
  exact ⟨pe_lc hc hN p ok (fun s H C cl fp => (hg s H C cl fp).ex) (fun s H C cl fp => by rw [← h1 s H C cl fp]; exact (ht s H C cl fp).pts) (fun s H C cl fp => by rw [← h3 s H C cl fp]; exact (he s H C cl fp).pe) hs,
    up_lc hi (ht X.s_0 (fun _ => none) 0 [] []).up (he X.s_0 (fun _ => none) 0 [] []).up hv⟩
end
end L3
end
section
set_option Elab.async false
set_option maxRecDepth 100000
set_option maxHeartbeats 1000000
namespace L3
open PySem PySem.Spec PyProof.Rows L2 Mx So

/-! ### tuple(x), list(x) -/
def oTupOf : List Im → Sto → K3 → Prop := fun xs S Q => ∃ x, xs = [x] ∧ ((∃ c its ds, x = .l c ∧ S c = some (.lst its) ∧ datas its = some ds ∧ Q (.d (.tuple ds)) S) ∨ ∃ ds, x = .d (.tuple ds) ∧ Q (.d (.tuple ds)) S)
def oListOf : List Im → Sto → K3 → Prop := fun xs S Q => ∃ x its, xs = [x] ∧ ((∃ c, x = .l c ∧ S c = some (.lst its)) ∨ ∃ ds, x = .d (.tuple ds) ∧ its = ds.map .d) ∧ New S fun c' => Q (.l c') (S.put c' (.lst its))
def rTupOf (K : PySem.W.Frag) : List V → Hp → VK → Prop := fun xs H Q => ∃ p ys, xs = [.ref p] ∧ ((SqL K H p ys ∧ ∀ l, H l = none → Q (.ref l) (upd H l (.tup ys))) ∨ (SqT K H p ys ∧ Q (.ref p) H))
def rListOf (K : PySem.W.Frag) : List V → Hp → VK → Prop := fun xs H Q => ∃ p ys, xs = [.ref p] ∧ (SqL K H p ys ∨ SqT K H p ys) ∧ ∀ l, H l = none → Q (.ref l) (upd H l (.lst ys))
section
variable {P : Program} {w : World} {Z : ZZ} {K : PySem.W.Frag}
theorem up_tupOf : UpL P w (rTupOf K) oTupOf := by
  rintro H ad S xs ixs Q Q3 R p ⟨x, rfl, h⟩ k
  obtain ⟨v, rfl, hv⟩ := pr1 p
  rcases h with ⟨c, its, ds, rfl, hc, hd, q⟩ | ⟨ds, rfl, q⟩
  · obtain ⟨rfl, _⟩ := hv
    obtain ⟨ys, h1, h2⟩ := R.at_ c _ hc
    refine ⟨_, ys, rfl, .inl ⟨SqL.of h1, fun l hl => ?_⟩⟩
    obtain ⟨R2, n2⟩ := R.tmp (o := .tup ys) hl
    exact k _ _ ad S (.d (.tuple ds)) R2 n2 (Dt.tup (.inl upd_same) (Dts.mono n2.tk _ (datas_at h2 hd))) q
  · obtain ⟨a, ys, rfl, h1, h2⟩ := Dt.tupI hv
    exact ⟨_, ys, rfl, .inr ⟨h1.sq, k _ H ad S (.d (.tuple ds)) R (Nx.refl _ _ _) hv q⟩⟩
theorem new_lst {H : Hp} {ad : L → Addr} {S : Sto} {ys : List V} {its : List Im} {Q : VK} {Q3 : K3} (R : Rep P w H ad S) (p : Paired (ItAt H ad S) ys its) (k : Aft P w H ad S Q Q3) (n : New S fun c' => Q3 (.l c') (S.put c' (.lst its))) {l : Addr} (hl : H l = none) :
    Q (.ref l) (upd H l (.lst ys)) := by
  obtain ⟨ad2, c, R2, n2, e2, _, q2⟩ := new_at (o := .lst ys) (e := .lst its) R n hl fun ad' c n => ⟨ys, upd_same, pr_go p n⟩
  exact k (.ref l) _ ad2 _ (.l c) R2 n2 ⟨by rw [e2], by rw [put_same]; exact fun z => nomatch z⟩ q2
theorem up_listOf : UpL P w (rListOf K) oListOf := by
  rintro H ad S xs ixs Q Q3 R p ⟨x, its, rfl, h, n⟩ k
  obtain ⟨v, rfl, hv⟩ := pr1 p
  rcases h with ⟨c, rfl, hc⟩ | ⟨ds, rfl, rfl⟩
  · obtain ⟨rfl, _⟩ := hv
    obtain ⟨ys, h1, h2⟩ := R.at_ c _ hc
    exact ⟨_, ys, rfl, .inl (SqL.of h1), fun l hl => new_lst R h2 k n hl⟩
  · obtain ⟨a, ys, rfl, h1, h2⟩ := Dt.tupI hv
    exact ⟨_, ys, rfl, .inr (h1.sq), fun l hl => new_lst R (dts_items h2) k n hl⟩

/-! ### list + list, list * int, tuple + tuple -/
def oCat : R3 := fun x y S Q => ∃ c c' its its', x = .l c ∧ y = .l c' ∧ S c = some (.lst its) ∧ S c' = some (.lst its') ∧ its.length + its'.length ≤ sizeLine ∧ New S fun d => Q (.l d) (S.put d (.lst (its ++ its')))
def oRep : R3 := fun x y S Q => ∃ c i its, x = .l c ∧ y = .d (.int i) ∧ S c = some (.lst its) ∧ -(2 ^ 63) ≤ i ∧ i < 2 ^ 63 ∧ its.length * i.toNat ≤ sizeLine ∧ New S fun d => Q (.l d) (S.put d (.lst (List.replicate i.toNat its).flatten))
def oCatT : R3 := fun x y S Q => ∃ as bs, x = .d (.tuple as) ∧ y = .d (.tuple bs) ∧ as.length + bs.length ≤ sizeLine ∧ Q (.d (.tuple (as ++ bs))) S
theorem up_cat : Up2 P w rCat oCat := by
  rintro H ad S x y ix iy Q Q3 R hx hy ⟨c, c', its, its', rfl, rfl, hc, hc', hl, n⟩ k
  obtain ⟨rfl, _⟩ := hx
  obtain ⟨rfl, _⟩ := hy
  obtain ⟨xs, h1, h2⟩ := R.at_ c _ hc
  obtain ⟨ys, h3, h4⟩ := R.at_ c' _ hc'
  exact ⟨_, _, xs, ys, rfl, rfl, h1, h3, by rw [Paired.length h2, Paired.length h4]; exact hl, fun l hl => new_lst R (Paired.app h2 h4) k n hl⟩
theorem pr_rep {α β : Type} {R : α → β → Prop} {xs : List α} {ys : List β} (p : Paired R xs ys) : ∀ n : Nat, Paired R (List.replicate n xs).flatten (List.replicate n ys).flatten
  | 0 => .nil
  | n + 1 => by
    rw [List.replicate_succ, List.replicate_succ, List.flatten_cons, List.flatten_cons]
    exact Paired.app p (pr_rep p n)
theorem up_rep : Up2 P w rRep oRep := by
  rintro H ad S x y ix iy Q Q3 R hx hy ⟨c, i, its, rfl, rfl, hc, h1, h2, hl, n⟩ k
  obtain ⟨rfl, _⟩ := hx
  obtain ⟨xs, h3, h4⟩ := R.at_ c _ hc
  exact ⟨_, _, xs, rfl, Dt.intI hy, h3, h1, h2, by rw [Paired.length h4]; exact hl, fun l hl => new_lst R (pr_rep h4 _) k n hl⟩
theorem up_catT : Up2 P w (rCatA K) oCatT := by
  rintro H ad S x y ix iy Q Q3 R hx hy ⟨as, bs, rfl, rfl, hl, q⟩ k
  obtain ⟨a, xs, rfl, h1, h2⟩ := Dt.tupI hx
  obtain ⟨b, ys, rfl, h3, h4⟩ := Dt.tupI hy
  have e1 := h2.len
  have e2 := h4.len
  refine ⟨_, _, xs, ys, rfl, rfl, h1.sq, h3.sq, by omega, fun e => ?_, fun _ e => ?_, fun _ _ p hp => ?_⟩
  · subst e
    cases h2
    exact k _ H ad S (.d (.tuple bs)) R (Nx.refl _ _ _) hy q
  · subst e
    cases h4
    rw [List.append_nil] at q
    exact k _ H ad S (.d (.tuple as)) R (Nx.refl _ _ _) hx q
  · obtain ⟨R2, n2⟩ := R.tmp (o := .tup (xs ++ ys)) hp
    exact k _ _ ad S (.d (.tuple (as ++ bs))) R2 n2 (Dt.tup (.inl upd_same) (Dts.mono n2.tk _ (h2.app h4))) q

/-! ### data of any depth: a tuple, a list of tuples .. -/
def imD (S : Sto) : Im → PyData → Prop := fun x d => x = .d d ∨ ∃ c its ds, x = .l c ∧ S c = some (.lst its) ∧ datas its = some ds ∧ d = .list ds
theorem imD_dp {H : Hp} {ad : L → Addr} {S : Sto} (R : Rep P w H ad S) {v : V} {x : Im} {d : PyData} (hx : ItAt H ad S v x) (h : imD S x d) : Dp K H v d := by
  rcases h with rfl | ⟨c, its, ds, rfl, hc, hd, rfl⟩
  · exact Dt.dp d hx
  · obtain ⟨rfl, _⟩ := hx
    obtain ⟨xs, h1, h2⟩ := R.at_ c _ hc
    exact .lst (SqL.of h1) (Dts.dp ds (datas_at h2 hd))
def oEqL (neg : Bool) : R3 := fun x y S Q => ∃ a b, imD S x a ∧ imD S y b ∧ SeqAt.shaped a = true ∧ SeqAt.shaped b = true ∧ Q (.d (.bool (if neg then !PyData.eqv a b else PyData.eqv a b))) S
theorem up_eqL : Up2 P w (rEqD K) (oEqL false) := by
  rintro H ad S x y ix iy Q Q3 R hx hy ⟨a, b, ha, hb, h1, h2, q⟩ k
  exact ⟨a, b, imD_dp R hx ha, imD_dp R hy hb, h1, h2, k _ H ad S (.d (.bool _)) R (Nx.refl _ _ _) (Dt.bl _) q⟩
theorem up_neL : Up2 P w (rNeD K) (oEqL true) := by
  rintro H ad S x y ix iy Q Q3 R hx hy ⟨a, b, ha, hb, h1, h2, q⟩ k
  exact ⟨a, b, imD_dp R hx ha, imD_dp R hy hb, h1, h2, k _ H ad S (.d (.bool _)) R (Nx.refl _ _ _) (Dt.bl _) q⟩
/-- x in a list of data -/
def oInD (neg : Bool) : R3 := fun x y S Q => ∃ a ds, imD S x a ∧ imD S y (.list ds) ∧ SeqAt.shaped a = true ∧ SeqAt.shaped (.list ds) = true ∧ Q (.d (.bool (if neg then !ds.any (fun z => PyData.eqv z a) else ds.any fun z => PyData.eqv z a))) S
theorem up_inD : Up2 P w (rInD K) (oInD false) := by
  rintro H ad S x y ix iy Q Q3 R hx hy ⟨a, ds, ha, hb, h1, h2, q⟩ k
  exact ⟨a, ds, imD_dp R hx ha, imD_dp R hy hb, h1, h2, k _ H ad S (.d (.bool _)) R (Nx.refl _ _ _) (Dt.bl _) q⟩
theorem up_notInD : Up2 P w (rNotInD K) (oInD true) := by
  rintro H ad S x y ix iy Q Q3 R hx hy ⟨a, ds, ha, hb, h1, h2, q⟩ k
  exact ⟨a, ds, imD_dp R hx ha, imD_dp R hy hb, h1, h2, k _ H ad S (.d (.bool _)) R (Nx.refl _ _ _) (Dt.bl _) q⟩
/-- a text in a tuple of texts -/
def oInS (neg : Bool) : R3 := fun x y S Q => ∃ (a : Str) (ts : List Str), x = .d (.str a) ∧ y = .d (.tuple (ts.map .str)) ∧ Q (.d (.bool (if neg then !ts.any (fun z => z == a) else ts.any fun z => z == a))) S
theorem dts_str {H : Hp} : ∀ {ts : List Str} {vs : List V}, Dts H vs (ts.map .str) → vs = ts.map .str
  | [], _, .nil => rfl
  | t :: ts, _, h => by
    cases h with
    | cons h1 h2 => rw [List.map_cons, dts_str h2, h1.strI]
theorem up_inS {neg : Bool} : Up2 P w (rIn K neg) (oInS neg) := by
  rintro H ad S x y ix iy Q Q3 R hx hy ⟨a, ts, rfl, rfl, q⟩ k
  obtain ⟨b, ys, rfl, h3, h4⟩ := Dt.tupI hy
  have e1 := Dt.strI hx
  subst e1
  have e2 := dts_str h4
  subst e2
  refine ⟨b, _, rfl, .inr (h3.sq), rfl, ?_, k _ H ad S (.d (.bool _)) R (Nx.refl _ _ _) (Dt.bl _) ?_⟩
  · induction ts with
    | nil => rfl
    | cons _ t ih => simp [flatV]
  · have e : inV (.str a) (ts.map .str) = ts.any (fun z => z == a) := by
      unfold inV
      rw [List.any_map]
      rfl
    rw [e]
    exact q
/-- a number in a list of numbers, a tuple of numbers -/
def oInI (neg : Bool) : R3 := fun x y S Q => ∃ (a : Int) (ns : List Int), x = .d (.int a) ∧ (y = .d (.tuple (ns.map .int)) ∨ ∃ c, y = .l c ∧ S c = some (.lst (ns.map fun n => .d (.int n)))) ∧ Q (.d (.bool (if neg then !ns.any (fun z => z == a) else ns.any fun z => z == a))) S
theorem dts_int {H : Hp} : ∀ {ts : List Int} {vs : List V}, Dts H vs (ts.map .int) → vs = ts.map .int
  | [], _, .nil => rfl
  | t :: ts, _, h => by
    cases h with
    | cons h1 h2 => rw [List.map_cons, dts_int h2, h1.intI]
theorem pr_int {H : Hp} {ad : L → Addr} {S : Sto} : ∀ {ts : List Int} {vs : List V}, Paired (ItAt H ad S) vs (ts.map fun n => .d (.int n)) → vs = ts.map .int
  | [], _, .nil => rfl
  | t :: ts, _, h => by
    cases h with
    | cons h1 h2 => rw [List.map_cons, pr_int h2, Dt.intI h1]
theorem up_inI {neg : Bool} : Up2 P w (rIn K neg) (oInI neg) := by
  rintro H ad S x y ix iy Q Q3 R hx hy ⟨a, ns, rfl, h, q⟩ k
  have e1 := Dt.intI hx
  subst e1
  have fin : ∀ (p : Addr), (SqL K H p (ns.map V.int) ∨ SqT K H p (ns.map V.int)) → rIn K neg (.int a) (.ref p) H Q := by
    intro p hp
    refine ⟨p, _, rfl, hp, rfl, ?_, k _ H ad S (.d (.bool _)) R (Nx.refl _ _ _) (Dt.bl _) ?_⟩
    · induction ns with
      | nil => rfl
      | cons _ t ih => simp [flatV]
    · have e : inV (.int a) (ns.map .int) = ns.any (fun z => z == a) := by
        unfold inV
        rw [List.any_map]
        rfl
      rw [e]
      exact q
  rcases h with rfl | ⟨c, rfl, hc⟩
  · obtain ⟨b, ys, rfl, h3, h4⟩ := Dt.tupI hy
    have e2 := dts_int h4
    subst e2
    exact fin b (.inr (h3.sq))
  · obtain ⟨rfl, _⟩ := hy
    obtain ⟨xs, h1, h2⟩ := R.at_ c _ hc
    have e2 := pr_int h2
    subst e2
    exact fin _ (.inl (SqL.of h1))

/-! ### sum, sorted -/
def oSum : List Im → Sto → K3 → Prop := fun xs S Q => ∃ (c : L) (ns : List Int), xs = [.l c] ∧ S c = some (.lst (ns.map fun n => .d (.int n))) ∧ Q (.d (.int ns.sum)) S
theorem up_sum : UpL P w (rSum K) oSum := by
  rintro H ad S xs ixs Q Q3 R p ⟨c, ns, rfl, hc, q⟩ k
  obtain ⟨v, rfl, hv⟩ := pr1 p
  obtain ⟨rfl, _⟩ := hv
  obtain ⟨ys, h1, h2⟩ := R.at_ c _ hc
  have e2 := pr_int h2
  subst e2
  exact ⟨_, ns, rfl, SqL.of h1, k _ H ad S (.d (.int _)) R (Nx.refl _ _ _) (Dt.int _) q⟩
def oSortI : List Im → Sto → K3 → Prop := fun xs S Q => ∃ (c : L) (ns : List Int), xs = [.l c] ∧ S c = some (.lst (ns.map fun n => .d (.int n))) ∧ ∀ ns' : List Int, ns'.Perm ns → ns'.Pairwise (· ≤ ·) → New S fun d => Q (.l d) (S.put d (.lst (ns'.map fun n => .d (.int n))))
theorem int_pr {H : Hp} {ad : L → Addr} {S : Sto} : ∀ ts : List Int, Paired (ItAt H ad S) (ts.map V.int) (ts.map fun n => Im.d (.int n))
  | [] => .nil
  | _ :: ts => .cons (Dt.int _) (int_pr ts)
theorem up_sortI : UpL P w (rSortedI K) oSortI := by
  rintro H ad S xs ixs Q Q3 R p ⟨c, ns, rfl, hc, q⟩ k
  obtain ⟨v, rfl, hv⟩ := pr1 p
  obtain ⟨rfl, _⟩ := hv
  obtain ⟨ys, h1, h2⟩ := R.at_ c _ hc
  have e2 := pr_int h2
  subst e2
  exact ⟨_, ns, rfl, SqL.of h1, fun ns' p hp hs hn => new_lst R (int_pr ns') k (q ns' hp hs) hn⟩
end

/-! ### the calls, the truth -/
section
variable {X : Cx} {Z : ZZ} {e a b : Expr} {es : List Expr} {pos p : Pos} {x : Str} {u ua ub : TE3} {th tha thb : TE} {tg : TA} {ug : TA3}
theorem e3_tupOf (hg : Gl X x) (hm : X.mg x = none) (hv : bootBuiltins x = some (.type "tuple")) (ha : PA3 X Z [e] tg ug) (hn : x ≠ "__name__" := by decide) (hdb : (x == ("__debug__" : Str)) = false := by decide)
    (he : starEach [e] X.env = [(false, eval e X.env)] := by rfl) (hpl : (backTo pos (starEach [] X.env)).any (·.1) = false := by rfl) : PE3 X Z (.Call (.Name x p) [e] [] pos) (tCB (rTupOf X.K) tg) (uCB oTupOf ug) :=
  e3_callTy (r := rTupOf X.K) call_tuple_of up_tupOf hg hm hv ha hn hdb he hpl
theorem e3_listOf (hg : Gl X x) (hm : X.mg x = none) (hv : bootBuiltins x = some (.type "list")) (ha : PA3 X Z [e] tg ug) (hn : x ≠ "__name__" := by decide) (hdb : (x == ("__debug__" : Str)) = false := by decide)
    (he : starEach [e] X.env = [(false, eval e X.env)] := by rfl) (hpl : (backTo pos (starEach [] X.env)).any (·.1) = false := by rfl) : PE3 X Z (.Call (.Name x p) [e] [] pos) (tCB (rListOf X.K) tg) (uCB oListOf ug) :=
  e3_callTy (r := rListOf X.K) call_list_of up_listOf hg hm hv ha hn hdb he hpl
theorem e3_sum (hc : X.calm = true) (hg : Gl X x) (hm : X.mg x = none) (hv : bootBuiltins x = some (.builtin "sum")) (ha : PA3 X Z [e] tg ug) (hn : x ≠ "__name__" := by decide) (hdb : (x == ("__debug__" : Str)) = false := by decide)
    (he : starEach [e] X.env = [(false, eval e X.env)] := by rfl) (hpl : (backTo pos (starEach [] X.env)).any (·.1) = false := by rfl) : PE3 X Z (.Call (.Name x p) [e] [] pos) (tCB (rSum X.K) tg) (uCB oSum ug) :=
  e3_callB (r := rSum X.K) (cr_sum hc) up_sum hg hm hv ha hn hdb he hpl
theorem e3_sortI (hg : Gl X x) (hm : X.mg x = none) (hv : bootBuiltins x = some (.builtin "sorted")) (ha : PA3 X Z [e] tg ug) (hn : x ≠ "__name__" := by decide) (hdb : (x == ("__debug__" : Str)) = false := by decide)
    (he : starEach [e] X.env = [(false, eval e X.env)] := by rfl) (hpl : (backTo pos (starEach [] X.env)).any (·.1) = false := by rfl) : PE3 X Z (.Call (.Name x p) [e] [] pos) (tCB (rSortedI X.K) tg) (uCB oSortI ug) :=
  e3_callB (r := rSortedI X.K) cr_sortedI up_sortI hg hm hv ha hn hdb he hpl
/-- the truth of a list, a tuple, a number, a truth value, None -/
def truI (S : Sto) (x : Im) (k : Bool) : Prop := (∃ c its, x = .l c ∧ S c = some (.lst its) ∧ k = !its.isEmpty) ∨ (∃ ds, x = .d (.tuple ds) ∧ k = !ds.isEmpty) ∨ (∃ i, x = .d (.int i) ∧ k = (i != 0)) ∨ x = .d (.bool k) ∨ (x = .d .none ∧ k = false)
theorem pr_empty {α β : Type} {R : α → β → Prop} {xs : List α} {ys : List β} (p : Paired R xs ys) : xs.isEmpty = ys.isEmpty := by
  cases p <;> rfl
theorem tru_of {P : Program} {w : World} {K : PySem.W.Frag} {H : Hp} {ad : L → Addr} {S : Sto} (R : Rep P w H ad S) {v : V} {it : Im} (i : ItAt H ad S v it) {k : Bool} (h : truI S it k) : TruV K v H k := by
  rcases h with ⟨c, its, rfl, hc, rfl⟩ | ⟨ds, rfl, rfl⟩ | ⟨j, rfl, rfl⟩ | rfl | ⟨rfl, rfl⟩
  · obtain ⟨rfl, _⟩ := i
    obtain ⟨xs, h1, h2⟩ := R.at_ c _ hc
    exact .inl ⟨xs, SqL.of h1, by rw [pr_empty h2]⟩
  · obtain ⟨a, xs, rfl, h1, h2⟩ := Dt.tupI i
    exact .inr (.inl ⟨xs, h1.sq, by rw [pr_empty (dts_pr h2)]⟩)
  · rw [Dt.intI i]
    exact (rfl : (j != 0) = (j != 0))
  · rw [Dt.blI i]
    exact (rfl : k = k)
  · rw [Dt.nonI i]
    exact (rfl : false = false)
def uTru (u : TE3) : TT3 := fun σ S Q => u σ S fun x S1 => ∃ k, truI S1 x k ∧ Q k S1
theorem t3_tru (h : PE3 X Z e th u) (he : ∀ whole, isTrue e X.env whole = (do let v ← whole; standAt e.pos; holding [v] (truthy v)) := by intro _; rfl) : PT3 X Z e (tTru X.K th) (uTru u) := by
  obtain ⟨q, h⟩ := h
  refine ⟨pt_truth q he, ?_⟩
  intro σ σi H ad S Q Q3 R sl z k
  refine h σ σi H ad S _ _ R sl z ?_
  rintro v H1 ad1 S1 it R1 n1 i1 ⟨b, hb, z1⟩
  exact ⟨b, tru_of R1 i1 hb, k b H1 ad1 S1 R1 n1 z1⟩
/-- a list's items to names -/
def kLst (js : List Nat) : TG3 := fun it σ S N => ∃ c its, it = .l c ∧ S c = some (.lst its) ∧ its.length = js.length ∧ N (setAll js its σ) S
theorem g3_lst {es : List Expr} {k : Nat} {js : List Nat} (hc : X.calm = true) (g : PGs3 X es js) (hn : (assignEach es X.env).length = js.length := by rfl) (hst : (assignEach es X.env).findIdx? (·.1) = none := by rfl) : PG3 X Z (.Tuple es k pos) (kLst js) := by
  refine ⟨_, pg_unl hc g.ex hn hst, ?_⟩
  rintro v it σ σi H ad S N N3 R sl hv ⟨c, its, rfl, hc, hl, z⟩ kk
  obtain ⟨rfl, _⟩ := hv
  obtain ⟨xs, h1, h2⟩ := R.at_ c _ hc
  have e := Paired.length h2
  refine ⟨_, xs, rfl, SqL.of h1, by omega, gAll_go js xs σ H N (by omega) ?_⟩
  exact kk _ _ H ad S R (Nx.refl _ _ _) (setAll_slots js h2 sl) z
end
end L3
end
section
set_option Elab.async false
set_option maxRecDepth 100000
set_option maxHeartbeats 1000000
namespace L3
open PySem PySem.Spec PyProof.Rows L2 Mx So

/-! ### raise X() -/
section
variable {X : Cx} {Z : ZZ}
def uRaise (z3 : WX3) (c : Value) : TS3 := fun _ σ S => z3 c σ S
theorem s3_raise {e : Expr} {C : Value} {pos : Pos} (hc : X.calm = true) (tk : LT.Takes X Z.z) (he : LT.PMk X e (fun _ H Q => ∀ t, H t = none → Q C none (upd H t (.tup [])))) : PS3 X Z (.Raise (some e) none pos) (uRaise Z.z3 C) := by
  refine ⟨_, LT.ps_raise hc tk he, ?_⟩
  intro σ σi H ad S D D3 R sl z k t ht
  obtain ⟨R2, n2⟩ := R.tmp (o := .tup []) ht
  exact sl.ax C σ σi _ ad S R2 n2 (sl.pr.go n2) z

/-! ### instances -/
variable {e o value : Expr} {es : List Expr} {pos pos' apos : Pos} {f m : Str} {th tha thv : TE} {u ua uv : TE3} {tg : TA} {ug : TA3}
theorem pr_lookup {R : V → Im → Prop} {ps : List (Str × V)} {fs : List (Str × Im)} (r : Paired (KvR R) ps fs) {k : Str} {it : Im} (h : fs.lookup k = some it) : ∃ v, ps.lookup k = some v ∧ R v it := by
  induction r with
  | nil => cases h
  | @cons p q ps qs h1 t ih =>
    obtain ⟨a, b⟩ := p
    obtain ⟨c, d⟩ := q
    have e : a = c := h1.1
    subst e
    rw [List.lookup_cons] at h ⊢
    cases e : k == a with
    | true =>
      rw [e] at h
      have := Option.some.inj h
      subst this
      exact ⟨b, rfl, h1.2⟩
    | false =>
      rw [e] at h
      exact ih h
theorem pr_lookup0 {R : V → Im → Prop} {ps : List (Str × V)} {fs : List (Str × Im)} (r : Paired (KvR R) ps fs) {k : Str} (h : fs.lookup k = none) : ps.lookup k = none := by
  induction r with
  | nil => rfl
  | @cons p q ps qs h1 t ih =>
    obtain ⟨a, b⟩ := p
    obtain ⟨c, d⟩ := q
    have e : a = c := h1.1
    subst e
    rw [List.lookup_cons] at h ⊢
    cases e : k == a with
    | true =>
      rw [e] at h
      cases h
    | false =>
      rw [e] at h
      exact ih h
def oFld (K : PySem.W.Frag) (f : Str) : Im → Sto → K3 → Prop := fun x S Q => ∃ c C fs it, x = .l c ∧ S c = some (.ins C fs) ∧ Cls K C ∧ NoAttr K C f ∧ fs.lookup f = some it ∧ Q it S
theorem e3_fld (h : PE3 X Z e th u) (hb : attributeBase e f X.env (eval e X.env) = eval e X.env := by rfl) : PE3 X Z (.Attribute e f pos) (tFld X.K th f) (uUn (oFld X.K f) u) := by
  obtain ⟨p, q⟩ := h
  refine ⟨pe_fld p hb, ?_⟩
  intro σ σi H ad S Q Q3 R sl z k
  refine q σ σi H ad S _ _ R sl z ?_
  rintro v H1 ad1 S1 ix R1 n1 i1 ⟨c, C, fs, it, rfl, hc, cl, na, hl, z1⟩
  obtain ⟨rfl, _⟩ := i1
  obtain ⟨dx, ps, h1, h2⟩ := R1.at_ c _ hc
  obtain ⟨v, h3, h4⟩ := pr_lookup h2 hl
  exact ⟨_, C, dx, ps, v, rfl, h1, cl, na, h3, k v H1 ad1 S1 it R1 n1 h4 z1⟩
/-- a field is set -/
def putFI (f : Str) (v : Im) : List (Str × Im) → List (Str × Im)
  | [] => [(f, v)]
  | (g, x) :: r => if g = f then (g, v) :: r else (g, x) :: putFI f v r
theorem pr_putF {R : V → Im → Prop} {f : Str} {v : V} {it : Im} (h : R v it) : ∀ {ps : List (Str × V)} {fs : List (Str × Im)}, Paired (KvR R) ps fs → Paired (KvR R) (putF f v ps) (putFI f it fs)
  | _, _, .nil => .cons ⟨rfl, h⟩ .nil
  | (g, x) :: _, (g', x') :: _, .cons h1 t => by
    have e : g = g' := h1.1
    subst e
    unfold putF putFI
    by_cases c : g = f
    · rw [if_pos c, if_pos c]
      exact .cons ⟨rfl, h⟩ t
    · rw [if_neg c, if_neg c]
      exact .cons h1 (pr_putF h t)
def uFldSet (K : PySem.W.Frag) (f : Str) (uo uv : TE3) : TS3 := fun D σ S => uv σ S fun v S1 => uo σ S1 fun x S2 => ∃ c C fs, x = .l c ∧ S2 c = some (.ins C fs) ∧ Cls K C ∧ NoAttr K C f ∧ fs.length < 1000 ∧ D.nx σ (S2.put c (.ins C (putFI f v fs)))
theorem s3_fld (ho : PE3 X Z o tha ua) (hv : PE3 X Z value thv uv) (hs : swapsWith value (some (.Attribute o f pos')) pos.line X.env = pure false := by rfl) : PS3 X Z (.Assign [.Attribute o f pos'] value pos) (uFldSet X.K f ua uv) := by
  obtain ⟨p1, ho⟩ := ho
  obtain ⟨p3, hv⟩ := hv
  refine ⟨_, ps_fld p1 p3 hs, ?_⟩
  intro σ σi H ad S D D3 R sl z k
  refine hv σ σi H ad S _ _ R sl z ?_
  intro v H1 ad1 S1 iv R1 n1 i1 z1
  refine ho σ σi H1 ad1 S1 _ _ R1 (sl.go n1) z1 ?_
  rintro x H2 ad2 S2 ix R2 n2 i2 ⟨c, C, fs, rfl, hc, cl, na, hl, z2⟩
  obtain ⟨rfl, hdom⟩ := i2
  obtain ⟨dx, ps, h2, h3⟩ := R2.at_ c _ hc
  have iv' := n2.it i1
  have n4 : Nx H2 ad2 S2 (upd H2 (ad2 c) (.ins C dx (putF f v ps))) ad2 (S2.put c (.ins C (putFI f iv fs))) := ⟨Tk.at_ h2 (fun _ y => by cases y), fun _ y => ⟨rfl, put_dom y⟩⟩
  obtain ⟨R4, _⟩ := R2.write hdom (o := .ins C dx (putF f v ps)) (e := .ins C (putFI f iv fs)) ⟨dx, _, upd_same, pr_putF (n4.it iv') (pr_map h3 fun _ _ q => ⟨q.1, n4.it q.2⟩)⟩
  exact ⟨_, C, dx, ps, rfl, h2, cl, na, by rw [Paired.length h3]; exact hl, k.nx σ σi _ ad2 _ R4 ((n1.trans n2).trans n4) (((sl.go n1).go n2).go n4) z2⟩

/-! ### methods, new instances -/
variable {k : Nat} {fn C : Addr} {fd : FuncData} {ps : List Str} {E : XK} {ta : TE} {t : TA} {x : Str} {p : Pos}
/-- the wish does not ask for the slots -/
def ZE (Z : ZZ) (E : XK) : Prop := ∀ c d σ H, Z.z c d σ H ↔ E c d H
theorem ze_of {E : XK} {E3 : XK3} : ZE (zOf E E3) E := fun _ _ _ _ => Iff.rfl
theorem pass_of (tk : LT.Takes X Z.z) (ze : ZE Z E) : Passes (LT.CX X.prog X.w) X E := LT.passes_call tk fun c d σ H h => (ze c d σ H).mpr h
/-- over the store -/
def uMeth (C : Addr) (m : Str) (sp : Sp3) (z3 : WX3) (uo : TE3) (ua : TA3) : TE3 := fun σ S Q => uo σ S fun x S1 => ∃ c fs, x = .l c ∧ S1 c = some (.ins C fs) ∧ fs.lookup m = none ∧ ua σ S1 fun its S2 => sp (x :: its) S2 Q fun cl S3 => z3 cl σ S3
def uMake (C : Addr) (sp : Sp3) (z3 : WX3) (ua : TA3) : TE3 := fun σ S Q => ua σ S fun its S1 => New S1 fun c => sp (.l c :: its) (S1.put c (.ins C [])) (fun it S2 => it = .d .none ∧ Q (.l c) S2) fun cl S3 => z3 cl σ S3
variable {sp : Sp3}
theorem up_meth {P : Program} {w : World} (ze : ZE Z E) (ho : Up P w Z ta ua) (ha : UpA P w Z t ug) : Up P w Z (tMeth C m (spOf P w sp) [] E ta t) (uMeth C m sp Z.z3 ua ug) := by
  intro σ σi H ad S Q Q3 R sl z k
  refine ho σ σi H ad S _ _ R sl z ?_
  rintro x H1 ad1 S1 ix R1 n1 i1 ⟨c, fs, rfl, hc, hl, z1⟩
  have i1' := i1
  obtain ⟨rfl, _⟩ := i1
  obtain ⟨dx, ps, h1, h2⟩ := R1.at_ c _ hc
  refine ⟨_, dx, ps, rfl, h1, pr_lookup0 h2 hl, ?_⟩
  refine ha σ σi H1 ad1 S1 _ _ R1 (sl.go n1) z1 ?_
  intro vs H2 ad2 S2 its R2 n2 p2 z2
  have n12 := n1.trans n2
  rw [List.append_nil]
  exact ⟨ad2, S2, _, Q3, _, R2, .cons (n2.it i1') p2, z2, k.go n12, fun cl H' ad' S' R' n' z => (ze cl none σ H').mp (sl.ax cl σ σi H' ad' S' R' (n12.trans n') ((sl.pr.go n12).go n') z)⟩
theorem up_make {P : Program} {w : World} (ze : ZE Z E) (ha : UpA P w Z t ug) : Up P w Z (tMake C (spOf P w sp) [] E t) (uMake C sp Z.z3 ug) := by
  intro σ σi H ad S Q Q3 R sl z k
  refine ha σ σi H ad S _ _ R sl z ?_
  intro vs H1 ad1 S1 its R1 n1 p1 z1 x dx hx hdx hne
  obtain ⟨R2, n2⟩ := R1.tmp (o := .own x) hdx
  have hx2 : upd H1 dx (.own x) x = none := by
    rw [upd_ne (fun e => hne e.symm)]
    exact hx
  obtain ⟨ad3, c, R3, n3, e3, _, q3⟩ := new_at (o := .ins C dx []) (e := .ins C []) R2 z1 hx2 fun ad' c n => ⟨dx, [], upd_same, .nil⟩
  have n13 := (n1.trans n2).trans n3
  have ic : ItAt (upd (upd H1 dx (.own x)) x (.ins C dx [])) ad3 (S1.put c (.ins C [])) (.ref x) (.l c) := ⟨by rw [e3], by rw [put_same]; exact fun z => nomatch z⟩
  rw [List.append_nil]
  refine ⟨ad3, _, _, _, _, R3, .cons ic (pr_go (pr_go p1 n2) n3), q3, ?_, fun cl H' ad' S' R' n' z => (ze cl none σ H').mp (sl.ax cl σ σi H' ad' S' R' (n13.trans n') ((sl.pr.go n13).go n') z)⟩
  rintro v H4 ad4 S4 it R4 n4 i4 ⟨rfl, q4⟩
  exact ⟨Dt.nonI i4, k (.ref x) H4 ad4 S4 (.l c) R4 (n13.trans n4) (n4.it ic) q4⟩
theorem e3_meth (ze : ZE Z E) (pe : PE X e (tMeth C m (spOf X.prog X.w sp) [] E ta t)) (ho : Up X.prog X.w Z ta ua) (ha : UpA X.prog X.w Z t ug) : PE3 X Z e (tMeth C m (spOf X.prog X.w sp) [] E ta t) (uMeth C m sp Z.z3 ua ug) := ⟨pe, up_meth ze ho ha⟩
theorem e3_make (ze : ZE Z E) (pe : PE X e (tMake C (spOf X.prog X.w sp) [] E t)) (ha : UpA X.prog X.w Z t ug) : PE3 X Z e (tMake C (spOf X.prog X.w sp) [] E t) (uMake C sp Z.z3 ug) := ⟨pe, up_make ze ha⟩
end
end L3
end
section
set_option Elab.async false
set_option maxRecDepth 100000
set_option maxHeartbeats 1000000
/-! A def that is told of a caught exception, and the try around a call. -/
namespace L3
open PySem PySem.Spec PyProof.Rows L2 Mx So L2H

/-- the promise of a def of one argument, an exception that is handled: the text that it tells of the class -/
structure FnX (P : Program) (w : World) (K : PySem.W.Frag) (mg : Str → Option Value) (base : Heap) (k : Nat) (f : Addr) (fd : FuncData) (x : Str) (good : Value → Str → Prop) : Prop where
  go : ∀ (A : Around) (outer : List Env) (s : Shared) (H : Hp) (args : Args) (p : Addr × Obj) (cls : Value) (t : Addr) (r : Str) (Q : VK), RoomH k A → PinOk outer H s p → LT.IsX cls t p → H t = some (.tup []) → good cls r → Env0 P w K mg base A outer s H →
    BindsTo s fd args [(x, .ref p.1)] → (∀ H', Same H H' → Q (.str r) H') → codeAny (model P w) A (.call (.ref f) args) (CR (LT.CX P w) outer P w H s Q E0) s
section
variable {P : Program} {w : World} {K : PySem.W.Frag} {mg : Str → Option Value} {base : Heap} {k : Nat} {f : Addr} {fd : FuncData} {good : Value → Str → Prop}
theorem fnx_of {x qual y : Str} {st : Stmt} {N : List Str} (F : Fun K x qual st f fd) (S : FnScope N [y] (defScope st))
    (hb : ∀ (cdv : Value) (A : Around) (outer : List Env) (s : Shared) (H : Hp) (p : Addr × Obj) (cls : Value) (t : Addr) (r : Str) (Q : VK), LT.IsX cls t p → H t = some (.tup []) → good cls r → RoomH k (A.deeper (envOfC qual (defScope st) s.heap.objs.size f cdv)) → (∀ H', Same H H' → Q (.str r) H') →
      ∃ t, PSs (cxH (LT.CX P w) P w K mg base N qual (defScope st) f cdv A outer s H E0 p) (defBody st) t ∧ t { nx := fun _ H' => Q .non H', rt := Q } (L2.start N [.ref p.1]) H) :
    FnX P w K mg base (k + 1) f fd y good := by
  obtain ⟨oc, od, kV, doc, pm, an, cdv, ct, osl, rfl, lk, hcd⟩ := F.ex
  refine ⟨?_⟩
  intro A outer s H args p cls t r Q hr hpin hx harg hg e0 bt hq
  have rv : Vals [V.ref p.1] [Value.ref p.1] := .cons rfl .nil
  have KX := e0.mod.kin.keeps (h' := s.heap) fun b o e => (e0.bs b o e).1
  have lim := e0.mod.nolimit.keeps (h' := s.heap) fun b o e => (e0.bs b o e).1
  have kinds : ∀ z ∈ [(y, Value.ref p.1)], (defScope st).names.lookup z.1 = some .local ∨
      ((defScope st).names.lookup z.1 = some .cell ∧ ((cellsFrom (s.heap.objs.size + 1) (defScope st).names []).lookup z.1).isSome = true) := by
    intro z hz
    have e := List.mem_singleton.mp hz
    subst e
    rcases S.par y (List.mem_singleton.mpr rfl) with q | q
    · exact .inl q
    · exact .inr ⟨q, PySem.W.cellsFrom_some _ _ _ (.inl q)⟩
  apply codeAny_call_function hr.depth (KX _ _ lk) rfl S.co S.gen rfl (PySem.W.codeRec_of KX hcd)
  apply bt
  apply wpAny_newFunctionEnv_cells S.kind kinds
  intro env he s1 xx
  subst he
  refine ⟨lim.keeps xx.toInCall.keep, ?_⟩
  apply codeAny_func
  obtain ⟨tm, ht, hw⟩ := hb cdv A outer s H p cls t r Q hx harg hg (hr.deeper _) hq
  have I := inv_startH (CX := LT.CX P w) (E := E0) (ps := [y]) (us := [Value.ref p.1]) S hpin e0 rfl rv xx
  refine wpAny_mono (ht.run [] s1 (L2.start N [.ref p.1]) H _ I hw) ?_ (fun e s' hs => hs)
  intro fl s' hs
  cases fl with
  | ret u =>
    obtain ⟨v, _, H', J, r, q⟩ := hs
    exact ⟨v, H', J.os, J.bare, J.base, J.hok, r, q⟩
  | next =>
    obtain ⟨_, H', J, q⟩ := hs
    exact ⟨V.non, H', J.os, J.bare, J.base, J.hok, rfl, q⟩
  | brk =>
    obtain ⟨_, _, _, q⟩ := hs
    exact q.elim
  | cont =>
    obtain ⟨_, _, _, q⟩ := hs
    exact q.elim
end
/-! ### such a call in the suite -/
section
variable {X : Cx} {k i : Nat} {f : Addr} {fd : FuncData} {x y n : Str} {good : Value → Str → Prop} {cls : Value} {t : Addr} {p : Addr × Obj} {q1 q2 pos : Pos}
def tExc (i : Nat) (a t : Addr) (good : Value → Str → Prop) (cls : Value) : TE := fun σ H Q => σ[i]? = some (some (.ref a)) ∧ H t = some (.tup []) ∧ ∃ r, good cls r ∧ ∀ H', Same H H' → Q (.str r) H'
theorem pe_exc (F : FnX X.prog X.w X.K X.mg X.base k f fd y good) (hr : RoomH k X.A) (hp : p ∈ X.pn) (hx : LT.IsX cls t p) (hg : Gl X x) (hm : X.mg x = some (.ref f)) (hk : PySem.W.keepIn X.K (.ref f) = true) (hb : Binds X.K fd [y] [])
    (hN : X.N[i]? = some n) (hv : Vis X.env.scope n) (hd : (n == ("__debug__" : Str)) = false := by decide) (hcd : (n == ("__classdict__" : Str)) = false := by decide) (hdb : (x == ("__debug__" : Str)) = false := by decide)
    (he : starEach [.Name n q1] X.env = [(false, eval (.Name n q1) X.env)] := by rfl) (hpl : (backTo pos (starEach [] X.env)).any (·.1) = false := by rfl) : PE X (.Call (.Name x q2) [.Name n q1] [] pos) (tExc i p.1 t good cls) := by
  have args : PA X [.Name n q1] (tCons (tVar i) tNil) := pa_cons (pv i hN hv hd hcd) pa_nil
  constructor
  intro pins s σ H Q I h
  obtain ⟨hs, harg, r, hgd, q⟩ := h
  apply wpAny_Call_Name_kw
  apply ld_glob I hg hm _ hdb
  apply PySem.W.callWith_K (h₀ := X.base) I.ok.mod.kin hk _ he hpl
  refine thn (args.run pos pins s σ H (fun vs H1 => vs = [V.ref p.1] ∧ H1 = H) I ⟨_, hs, rfl, rfl⟩) ?_
  rintro us s1 ⟨vs, H1, I1, rr, rfl, rfl⟩
  obtain ⟨u, rfl, ru⟩ := vals1 rr
  obtain rfl : u = Value.ref p.1 := ru
  refine ⟨I1.kIn, ?_⟩
  have b := hb s1 [Value.ref p.1] I1.kIn rfl
  rw [List.append_nil] at b
  have P1 := I1.pin p (List.mem_append_left _ hp)
  have hpin : PinOk X.stack H1 s1 p := ⟨P1.1, P1.2.1, fun hm => (List.mem_cons.mp (I1.stkSub p.1 hm)).elim P1.2.2.1 P1.2.2.2.1, P1.2.2.2.2⟩
  refine wpAny_call (codeAny_mono (F.go X.A X.stack s1 H1 ⟨[Value.ref p.1], []⟩ p cls t r Q hr hpin hx harg hgd I1.env0 b q) ?_)
  intro r' s' hq
  cases r' with
  | error e' =>
    obtain ⟨_, _, _, _, _, _, _, out⟩ := hq
    exact out.wish.elim
  | ok fl =>
    cases fl with
    | ret u => exact I1.after hq
    | next => exact hq.elim
    | brk => exact hq.elim
    | cont => exact hq.elim
theorem rep_same {P : Program} {w : World} {H H' : Hp} {ad : L → Addr} {S : Sto} (R : Rep P w H ad S) (h : Same H H') : Rep P w H' ad S ∧ Nx H ad S H' ad S := by
  have n : Nx H ad S H' ad S := ⟨fun a xs e => e.elim (fun e => .inl (h a _ e)) fun e => .inr ⟨e.1, e.2.choose, h a _ e.2.choose_spec⟩, fun _ h => ⟨rfl, h⟩⟩
  refine ⟨⟨fun c e hc => ?_, R.inj, R.tm⟩, n⟩
  obtain ⟨o, ho, _⟩ := (R.at_ c e hc).obj
  exact (R.at_ c e hc).keep n ((h _ _ ho).trans ho.symm)
def uExc (i : Nat) (good : Value → Str → Prop) (cls : Value) (a : Addr) : TE3 := fun σ S Q => σ[i]? = some (some (.a a)) ∧ ∃ r, good cls r ∧ Q (.d (.str r)) S
/-- a reading in a suite: the arguments of the exception stand -/
def UpX (P : Program) (w : World) (Z : ZZ) (t : Addr) (th : TE) (u : TE3) : Prop := ∀ σ σi H ad S Q Q3, Rep P w H ad S → Slots P w Z H ad S σ σi → H t = some (.tup []) → u σi S Q3 → Aft P w H ad S Q Q3 → th σ H Q
/-- ("..", f(e)) -/
def tRef (x : Str) (i : Nat) (a t : Addr) (good : Value → Str → Prop) (cls : Value) : TE := tTup (tCons (tC (.str x)) (tCons (tExc i a t good cls) tNil))
def uRef (x : Str) (i : Nat) (good : Value → Str → Prop) (cls : Value) (a : Addr) : TE3 := fun σ S Q => σ[i]? = some (some (.a a)) ∧ ∃ r, good cls r ∧ Q (.d (.tuple [.str x, .str r])) S
theorem up_ref {P : Program} {w : World} {Z : ZZ} {x : Str} {a t : Addr} : UpX P w Z t (tRef x i a t good cls) (uRef x i good cls a) := by
  rintro σ σi H ad S Q Q3 R sl harg ⟨hi, r, hg, q⟩ k
  obtain ⟨v, hv, iv⟩ := sl.get hi
  obtain rfl : v = .ref a := iv
  refine ⟨hv, harg, r, hg, fun H1 hs => ⟨by show 2 ≤ sizeLine; decide, fun p hp => ?_⟩⟩
  obtain ⟨R2, n2⟩ := rep_same R hs
  obtain ⟨R3, n3⟩ := R2.tmp (o := .tup [.str x, .str r]) hp
  exact k (.ref p) _ ad S (.d (.tuple [.str x, .str r])) R3 (n2.trans n3) (Dt.tup (.inl upd_same) (.cons (.str _) (.cons (.str _) .nil))) q
end

/-! ### try: a block; except X as n: return e -/
theorem pe_pre {X : Cx} {e : Expr} {t : TE} {φ : Prop} (h : φ → PE X e t) : PE X e (fun σ H Q => φ ∧ t σ H Q) := ⟨fun pins s σ H Q I z => (h z.1).run pins s σ H Q I z.2⟩
section
variable {X : Cx} {Z : ZZ} {x n : Str} {c : Value} {i : Nat} {es : Expr} {body : List Stmt} {np p2 pos' pos : Pos} {tb : WX → TS} {ub : WX3 → TS3} {te : Addr → Addr → Value → TE} {ue : Addr → Value → TE3}
def uTry (K : PySem.W.Frag) (c : Value) (i : Nat) (z3 : WX3) (ub : WX3 → TS3) (ue : Addr → Value → TE3) : TS3 := fun D σ S =>
  ub (fun cls σ1 S1 => ∃ b, PySem.W.exmOne K cls c = some b ∧ (b = true → ∀ a, ue a cls (σ1.set i (some (.a a))) S1 D.rt) ∧ (b = false → z3 cls σ1 S1)) D σ S
theorem s3_try (hs : X.stack = X.env :: X.outer) (hf : X.env.frame = some X.env.locals) (hN : X.N.Nodup) (hi : X.N[i]? = some n) (hln : X.env.kindOf n = some .local) (hc : Names X x c) (tk : LT.Takes X Z.z)
    (hb : ∀ (W : WX) (pn : List (Addr × Obj)) (xe : Value → Shared → Prop), LT.Takes (X.tr pn xe) W → PassesOwn (model X.prog X.w) X.A X.env xe → PSs (X.tr pn xe) body (tb W)) (hub : ∀ W W3, UpS X.prog X.w ⟨W, W3⟩ (tb W) (ub W3))
    (hsu : ∀ (a t : Addr) (oe : Obj) (cls : Value) (pn : List (Addr × Obj)), LT.IsX cls t (a, oe) → PE (X.suite a ((a, oe) :: pn)) es (te a t cls)) (hue : ∀ a t cls, UpX X.prog X.w Z t (te a t cls) (ue a cls)) :
    PS3 X Z (.Try body [.ExceptHandler (some (.Name x np)) (some n) [.Return (some es) p2] pos'] [] [] pos) (uTry X.K c i Z.z3 ub ue) := by
  have rule := LT.ps_tryT (pos := pos) (pos' := pos') (np := np) (suite := []) (body := body) (b0 := .Return (some es) p2) (tb := tb) (ts := fun a t cls d => tRet fun σ H Q => d = none ∧ te a t cls σ H Q) (Wout := Z.z) hs hf hN hi hln hc tk hb
    (fun a t oe cls d pn z v => pss_one (ps_ret (pe_pre fun e => by
      subst e
      exact hsu a t oe cls pn ⟨z, v⟩)))
  refine ⟨_, rule, ?_⟩
  intro σ σi H ad S D D3 R sl z k
  refine hub (LT.wAsT X.K c i (fun a t cls d => tRet fun σ H Q => d = none ∧ te a t cls σ H Q) Z.z D) _ σ σi H ad S D D3 R ⟨sl.pr, ?_⟩ z ?_
  · rintro cl σ' σi' H' ad' S' R' n' sp' ⟨b, hb, h1, h2⟩
    refine ⟨b, hb, fun e a t ha harg => ⟨rfl, ?_⟩, fun e => sl.ax cl σ' σi' H' ad' S' R' n' sp' (h2 e)⟩
    exact hue a t cl _ _ H' ad' S' _ _ R' (Slots.set ⟨sp', sl.ax.go n'⟩ i (show ItAt H' ad' S' (.ref a) (.a a) from rfl)) harg (h1 e a) (k.rt.go n')
  · exact ⟨fun σ2 σi2 H2 ad2 S2 R2 n2 s2 q => k.nx σ2 σi2 H2 ad2 S2 R2 n2 ⟨s2.pr, sl.ax.go n2⟩ q, k.rt, fun σ2 σi2 H2 ad2 S2 R2 n2 s2 q => k.bk σ2 σi2 H2 ad2 S2 R2 n2 ⟨s2.pr, sl.ax.go n2⟩ q, fun σ2 σi2 H2 ad2 S2 R2 n2 s2 q => k.ct σ2 σi2 H2 ad2 S2 R2 n2 ⟨s2.pr, sl.ax.go n2⟩ q⟩
end
end L3
end
section
set_option Elab.async false
set_option maxRecDepth 100000
set_option maxHeartbeats 1000000
namespace L3
open PySem PySem.Spec PyProof.Rows L2 Mx So L2H
/-! ### how often a flat value stands in a list -/
def rCnt (K : PySem.W.Frag) : V → List V → Hp → VK → Prop := fun x xs H Q => ∃ (p : Addr) (ys : List V) (y : V), x = .ref p ∧ xs = [y] ∧ SqL K H p ys ∧ flatV y = true ∧ ys.all flatV = true ∧ Q (.int (ys.countP fun z => eqV z y : Nat)) H
theorem countP_eqU {y : V} : ∀ {xs : List V} {us : List Value}, Vals xs us → xs.all flatV = true → us.countP (eqU y) = xs.countP fun z => eqV z y
  | [], _, .nil, _ => rfl
  | x :: xs, _, .cons r t, f => by
    have f2 : flatV x = true ∧ xs.all flatV = true := by simpa using f
    rw [List.countP_cons, List.countP_cons, countP_eqU t f2.2, eqU_of r f2.1]
theorem mt_lcountF {X : Cx} : MtR X "list.count" (rCnt X.K) := by
  rintro pins s σ H x xs v us Q I rx rxs ⟨p, ys, y, rfl, rfl, hs, fy, fys, q⟩
  obtain rfl : v = Value.ref p := rx
  obtain ⟨u, rfl, ru⟩ := vals1 rxs
  obtain ⟨its, rv, ⟨ob, n, ho, hc, hdn, hd⟩, _⟩ := I.list hs
  obtain ⟨oc, od, oda, osl⟩ := ob
  dsimp only at hc hd
  subst hc hd
  refine call_meets PySem.F.slot_list_count ⟨_, ho, rfl⟩ PySem.F.entry_list_count (PySem.F.args_list_count_2 _ _) (SeqAt.list_countAt p its.toArray n od osl u (eqU y)) ⟨ho, fun z hz => mem_eqAt ru fy rv fys z (by simpa using hz), ?_⟩
  refine ⟨.int (ys.countP fun z => eqV z y : Nat), H, I.tok _, ⟨s.toks, ?_⟩, q⟩
  have ec : its.toArray.toList.countP (eqU y) = ys.countP fun z => eqV z y := countP_eqU rv fys
  rw [← ec]

/-! ### the law's word for an error -/
/-- the four classes of errors: none is another, each is a ValueError -/
structure Errs (K : PySem.W.Frag) (c1 c2 c3 c4 : Addr) : Prop where
  ex : ExcC K c1 ∧ ExcC K c2 ∧ ExcC K c3 ∧ ExcC K c4
  k1 : PySem.W.kitOne K (.ref c1) (.ref c1) = some true ∧ PySem.W.kitOne K (.ref c1) (.ref c2) = some false ∧ PySem.W.kitOne K (.ref c1) (.ref c3) = some false ∧ PySem.W.kitOne K (.ref c1) (.ref c4) = some false ∧ PySem.W.kitOne K (.ref c1) (.type "ValueError") = some true
  k2 : PySem.W.kitOne K (.ref c2) (.ref c1) = some false ∧ PySem.W.kitOne K (.ref c2) (.ref c2) = some true ∧ PySem.W.kitOne K (.ref c2) (.ref c3) = some false ∧ PySem.W.kitOne K (.ref c2) (.ref c4) = some false ∧ PySem.W.kitOne K (.ref c2) (.type "ValueError") = some true
  k3 : PySem.W.kitOne K (.ref c3) (.ref c1) = some false ∧ PySem.W.kitOne K (.ref c3) (.ref c2) = some false ∧ PySem.W.kitOne K (.ref c3) (.ref c3) = some true ∧ PySem.W.kitOne K (.ref c3) (.ref c4) = some false ∧ PySem.W.kitOne K (.ref c3) (.type "ValueError") = some true
  k4 : PySem.W.kitOne K (.ref c4) (.ref c1) = some false ∧ PySem.W.kitOne K (.ref c4) (.ref c2) = some false ∧ PySem.W.kitOne K (.ref c4) (.ref c3) = some false ∧ PySem.W.kitOne K (.ref c4) (.ref c4) = some true ∧ PySem.W.kitOne K (.ref c4) (.type "ValueError") = some true
/-- the word by the class: the tests in their order, the words in the same order -/
inductive Word (c1 c2 c3 c4 : Addr) (t1 t2 t3 t4 : Str) : Value → Str → Prop
  | a : Word c1 c2 c3 c4 t1 t2 t3 t4 (.ref c1) t1
  | b : Word c1 c2 c3 c4 t1 t2 t3 t4 (.ref c2) t2
  | c : Word c1 c2 c3 c4 t1 t2 t3 t4 (.ref c3) t3
  | d : Word c1 c2 c3 c4 t1 t2 t3 t4 (.ref c4) t4
/-! ### readings alone -/
section
variable {P : Program} {w : World} {Z : ZZ} {th : TE} {tg : TA} {u : TE3} {r : TA3}
theorem upa_nil : UpA P w Z tNil uNil := fun _ _ H ad S _ _ R _ h k => k [] H ad S [] R (Nx.refl _ _ _) .nil h
theorem upa_cons (q : Up P w Z th u) (q2 : UpA P w Z tg r) : UpA P w Z (tCons th tg) (uCons u r) := by
  intro σ σi H ad S Q Q3 R sl z k
  refine q σ σi H ad S _ _ R sl z ?_
  intro v H1 ad1 S1 it R1 n1 i1 z1
  refine q2 σ σi H1 ad1 S1 _ _ R1 (sl.go n1) z1 ?_
  intro vs H2 ad2 S2 its R2 n2 p2 z2
  exact k (v :: vs) H2 ad2 S2 (it :: its) R2 (n1.trans n2) (.cons (n2.it i1) p2) z2
theorem up_tup (q : UpA P w Z tg r) : Up P w Z (tTup tg) (uTup r) := by
  intro σ σi H ad S Q Q3 R sl z k
  refine q σ σi H ad S _ _ R sl z ?_
  rintro vs H1 ad1 S1 its R1 n1 p1 ⟨ds, h1, h2, h3⟩
  have hd := datas_at p1 h1
  refine ⟨by rw [hd.len]; exact h2, fun a ha => ?_⟩
  obtain ⟨R2, n2⟩ := R1.tmp (o := .tup vs) ha
  exact k (.ref a) _ ad1 S1 (.d (.tuple ds)) R2 (n1.trans n2) (Dt.tup (.inl upd_same) (Dts.mono n2.tk _ hd)) h3
theorem up_var {i : Nat} : Up P w Z (tVar i) (uVar i) := by
  rintro σ σi H ad S Q Q3 R sl ⟨it, h1, h2⟩ k
  obtain ⟨v, h3, h4⟩ := sl.get h1
  exact ⟨v, h3, k v H ad S it R (Nx.refl _ _ _) h4 h2⟩
end
end L3
end
section
set_option Elab.async false
set_option maxRecDepth 100000
/-! Calls while no repr is under way: the same judgements as FnOk's, for the surroundings without a guard. -/
namespace Gd
open PySem PySem.Spec PyProof.Rows L2

structure FnG (P : Program) (w : World) (K : PySem.W.Frag) (mg : Str → Option Value) (base : Heap) (CX : CXT) (k : Nat) (f : Addr) (fd : FuncData) (ps : List Str) (sp : Sp) : Prop where
  len : ∀ vs H Q E, sp vs H Q E → vs.length = ps.length
  go : ∀ (A : Around) (outer : List Env) (s : Shared) (H : Hp) (args : Args) (us : List Value) (vs : List V) (Q : VK) (E : XK),
    A.guards = some [] → Room k A → Env0 P w K mg base A outer s H → BindsTo s fd args (ps.zip us) → Vals vs us → sp vs H Q E →
    codeAny (model P w) A (.call (.ref f) args) (CR CX outer P w H s Q E) s

section
variable {P : Program} {w : World} {K : PySem.W.Frag} {mg : Str → Option Value} {base : Heap} {CX : CXT} {k : Nat} {f : Addr} {fd : FuncData} {ps : List Str} {sp : Sp}
theorem FnG.of (F : FnOk P w K mg base CX k f fd ps sp) : FnG P w K mg base CX k f fd ps sp :=
  ⟨F.len, fun A o s H a us vs Q E _ hr e b r q => F.run A o s H a us vs Q E hr e b r q⟩

/-- a def of the text, from its body's reading, which may use that no repr is under way -/
theorem body_ok {x qual : Str} {st : Stmt} {N : List Str} (F : Fun K x qual st f fd) (S : FnScope N ps (defScope st)) (len : ∀ vs H Q E, sp vs H Q E → vs.length = ps.length)
    (hb : ∀ (cdv : Value) (A : Around) (outer : List Env) (s : Shared) (H : Hp) (vs : List V) (Q : VK) (E : XK), A.guards = some [] →
      Room k (A.deeper (envOfC qual (defScope st) s.heap.objs.size f cdv)) → sp vs H Q E →
      ∃ t, PSs (cxOf CX P w K mg base N qual (defScope st) f cdv A outer s H E).nox (defBody st) t ∧ t { nx := fun _ H' => Q .non H', rt := Q } (start N vs) H) :
    FnG P w K mg base CX (k + 1) f fd ps sp := by
  obtain ⟨oc, od, kV, doc, pm, an, cdv, ct, osl, rfl, lk, hcd⟩ := F.ex
  refine ⟨len, ?_⟩
  intro A outer s H args us vs Q E hg hr e0 bt rv hsp
  have whole : s.heap.objs.size = s.heap.objs.size := rfl
  have KX := e0.mod.kin.keeps (h' := s.heap) fun b o e => (e0.bs b o e).1
  have lim := e0.mod.nolimit.keeps (h' := s.heap) fun b o e => (e0.bs b o e).1
  have kinds : ∀ y ∈ ps.zip us, (defScope st).names.lookup y.1 = some .local ∨
      ((defScope st).names.lookup y.1 = some .cell ∧ ((cellsFrom (s.heap.objs.size + 1) (defScope st).names []).lookup y.1).isSome = true) := by
    rintro ⟨n, v⟩ hy
    rcases S.par n (List.of_mem_zip hy).1 with q | q
    · exact .inl q
    · exact .inr ⟨q, PySem.W.cellsFrom_some _ _ _ (.inl q)⟩
  apply codeAny_call_function hr.depth (KX _ _ lk) rfl S.co S.gen rfl (PySem.W.codeRec_of KX hcd)
  apply bt
  apply wpAny_newFunctionEnv_cells S.kind kinds
  intro env he s1 x
  subst he
  refine ⟨lim.keeps x.toInCall.keep, ?_⟩
  apply codeAny_func
  obtain ⟨t, ht, hq⟩ := hb cdv A outer s H vs Q E hg (hr.deeper _) hsp
  have I : Inv (cxOf CX P w K mg base N qual (defScope st) f cdv A outer s H E) [] (start N vs) H s1 := inv_start S hr.hd e0 (len _ _ _ _ hsp) rv x
  refine wpAny_mono (ht.nox.run [] s1 (start N vs) H _ I hq) ?_ (fun e s' hs => hs)
  intro fl s' hs
  cases fl with
  | ret u =>
    obtain ⟨v, _, H', J, r, q⟩ := hs
    exact ⟨v, H', J.os, J.bare, J.base, J.hok, r, q⟩
  | next =>
    obtain ⟨_, H', J, q⟩ := hs
    exact ⟨V.non, H', J.os, J.bare, J.base, J.hok, rfl, q⟩
  | brk =>
    obtain ⟨_, _, _, q⟩ := hs
    exact q.elim
  | cont =>
    obtain ⟨_, _, _, q⟩ := hs
    exact q.elim
end

section
variable {X : Cx} {CX : CXT} {k : Nat} {f : Addr} {fd : FuncData} {ps : List Str} {sp : Sp} {E : XK} {x : Str} {p pos : Pos} {e : Expr} {es : List Expr} {t : TA}
/-- a call of such a def, where no repr is under way -/
theorem pe_callG (hG : X.A.guards = some []) (F : FnG X.prog X.w X.K X.mg X.base CX k f fd ps sp) (hr : Room k X.A) (hg : Gl X x) (hm : X.mg x = some (.ref f)) (hk : PySem.W.keepIn X.K (.ref f) = true) (hb : Binds X.K fd ps []) (hx : Passes CX X E)
    (ha : PA X (e :: es) t) (hdb : (x == ("__debug__" : Str)) = false := by decide)
    (he : starEach (e :: es) X.env = (false, eval e X.env) :: starEach es X.env := by rfl)
    (hpl : (backTo pos (starEach es X.env)).any (·.1) = false := by rfl) :
    PE X (.Call (.Name x p) (e :: es) [] pos) (tCall sp [] E t) := by
  constructor
  intro pins s σ H Q I h
  apply wpAny_Call_Name_kw
  apply ld_glob I hg hm _ hdb
  apply PySem.W.callWith_K (h₀ := X.base) I.ok.mod.kin hk _ he hpl
  refine thn (ha.run pos pins s σ H _ I h) ?_
  rintro us s1 ⟨vs, H1, I1, r, q⟩
  refine ⟨I1.kIn, ?_⟩
  rw [List.append_nil] at q
  have hl : (us ++ []).length = ps.length := by
    rw [List.append_nil, ← r.length]
    exact F.len _ _ _ _ q
  have hb' := hb s1 us I1.kIn hl
  rw [List.append_nil] at hb'
  apply wpAny_call
  refine codeAny_mono (F.go X.A X.stack s1 H1 ⟨us, []⟩ us vs Q E hG hr I1.env0 hb' r q) ?_
  intro r' s' hq
  cases r' with
  | error e' => exact hx pins σ H1 s1 e' s' I1 hq
  | ok fl =>
    cases fl with
    | ret u => exact I1.after hq
    | next => exact hq.elim
    | brk => exact hq.elim
    | cont => exact hq.elim

/-- repr of data: lists and tuples of any depth below sixty -/
theorem call_reprD (hG : X.A.guards = some []) (hu : X.A.units + 64 < cLine) : CallR X (.builtin "repr") (fun xs H Q => ∃ (a : Addr) (d : PyData), xs = [.ref a] ∧ Dp X.K H (.ref a) d ∧ d.hasDict = false ∧
    d.showable = true ∧ d.depth ≤ 60 ∧ d.shown.length ≤ sizeLine ∧ Q (.str d.shown) H) := by
  intro pins s σ H xs us Q I r h
  obtain ⟨a, d, rfl, hd, hnd, hs, hdep, hsz, q⟩ := h
  obtain ⟨u, rfl, ru⟩ := vals1 r
  cases ru
  obtain ⟨as, rd⟩ := Dp.reads I d _ _ hd (show RelV (.ref a) (Value.ref a) from rfl)
  refine repr_of_reads' rd hs (PyData.noDict_hsm hnd) hG (by omega) (fun _ _ e => e) ?_ hsz
  intro h' u tk hk
  exact ⟨.str d.shown, H, I.kept (h' := h') (t' := tk) hk, ⟨u, rfl⟩, q⟩
end

/-! ### the end of a law's row, the same way -/
theorem law_at {P : Program} {w : World} {K : PySem.W.Frag} {mg mb : Str → Option Value} {k : Nat} {fa a : Addr} {fd : FuncData} {x : Str} {sp : Sp} {s₁ : Shared} {vs : List Value} {ns : List Int}
    (KX : K.In s₁.heap) (hns : s₁.heap.Ns mainGlobals mg) (hb : s₁.heap.Ns builtinsNs mb) (hbb : ∀ x : Str, x ≠ "__name__" → mb x = bootBuiltins x) (hlim : s₁.heap.NoLimit) (hgen : s₁.gens = #[])
    (ha : s₁.heap.get? a = some { cls := .type "list", data := .seq vs.toArray }) (hi : IntsAre vs ns) (hl : ns.length ≤ sizeLine) (hr : Room k callerA)
    (F : ∀ base : Heap, K.In base → base.Ns mainGlobals mg → FnG P w K mg base CX0 k fa fd [x] sp) (hbind : ∀ (s : Shared) (u : Value), BindsTo s fd ⟨[u], []⟩ [(x, u)])
    (hsp : ∀ H : Hp, Only H → SqL K H a (ns.map V.int) → sp [.ref a] H (fun v _ => v = .bl true) fun _ _ _ => False) :
    codeAny (model P w) callerA (.call (.ref fa) ⟨[.ref a], []⟩) (fun r s' => r = .ok (.ret (.bool true)) ∧ OldK s₁.heap s'.heap ∧ s'.os = s₁.os ∧ AllBare s'.gens) s₁ := by
  have rv := vals_ints hi
  have lenV := hi.length
  have go : ∀ H : Hp, Only H → SqL K H a (ns.map V.int) → HOk P w H s₁.heap → (∀ b, H b ≠ none → b = a) → (H a ≠ none → K.lookup a = none) →
      codeAny (model P w) callerA (.call (.ref fa) ⟨[.ref a], []⟩) (fun r s' => r = .ok (.ret (.bool true)) ∧ OldK s₁.heap s'.heap ∧ s'.os = s₁.os ∧ AllBare s'.gens) s₁ := by
    intro H hO hS hok hA hK
    have free : ∀ {b : Addr} {o : Obj}, s₁.heap.get? b = some o → (b = a → False) → H b = none := by
      intro b o _ hne
      cases q : H b with
      | none => rfl
      | some u => exact (hne (hA b (by rw [q]; exact fun z => nomatch z))).elim
    have nsK : ∀ {b : Addr} {m : Str → Option Value}, s₁.heap.Ns b m → (hidT s₁.heap H).Ns b m := by
      rintro b m ⟨o, es, ep, e, d, r⟩
      refine ⟨o, es, ep, hidT_get e (free e ?_), d, r⟩
      rintro rfl
      rw [ha] at e
      cases e
      cases d
    have inB : K.In (hidT s₁.heap H) := by
      intro b o e
      refine hidT_get (KX b o e) ?_
      cases q : H b with
      | none => rfl
      | some u =>
        have e' : b = a := hA b (by rw [q]; exact fun z => nomatch z)
        subst e'
        rw [hK (by rw [q]; exact fun z => nomatch z)] at e
        cases e
    obtain ⟨mc, l1, l2⟩ := hlim
    have M : Mod K mg (hidT s₁.heap H) := ⟨inB, nsK hns, ⟨mb, nsK hb, hbb⟩, mc, nsK l1, l2⟩
    have e0 : Env0 P w K mg (hidT s₁.heap H) callerA [] s₁ H :=
      ⟨rfl, M, fun b o e => of_hidT e, Nat.le_of_eq (hidT_size _ _), trivial, fun b z => (List.not_mem_nil z).elim, hok, .of_eq hgen⟩
    have run := (F _ inB (nsK hns)).go callerA [] s₁ H ⟨[.ref a], []⟩ [.ref a] [.ref a] _ _ rfl hr e0 (hbind s₁ (.ref a)) (.cons rfl .nil) (hsp H hO hS)
    refine codeAny_mono run ?_
    intro r s' h
    cases r with
    | error e => exact h.elim
    | ok fl =>
      cases fl with
      | next => exact h.elim
      | brk => exact h.elim
      | cont => exact h.elim
      | ret u =>
        obtain ⟨v, H', os, bare, un, hok', r', q⟩ := h
        have q' : v = .bl true := q
        subst q'
        have ru : u = Value.bool true := r'
        subst ru
        refine ⟨rfl, OldK.of_keep ?_, os, bare⟩
        intro b o e
        cases q : H b with
        | none => exact un.keep b o e q List.not_mem_nil List.not_mem_nil
        | some u =>
          rcases hO b with z | ⟨ob, xs, z⟩
          · rw [q] at z
            cases z
          · have e1 := (hok b _ z).1
            have e2 := (hok' b _ (un.frzs b ob _ z)).1
            rw [e] at e1
            cases e1
            exact e2
  cases hk : K.lookup a with
  | some o =>
    have e := KX a o hk
    rw [ha] at e
    cases e
    refine go (fun _ => none) (fun _ => .inl rfl) (.inr ⟨_, vs.toArray, _, hk, rfl, rfl, rfl, ?_, by simpa using rv⟩) (fun b u z => nomatch z) (fun b z => (z rfl).elim) (fun z => (z rfl).elim)
    rw [List.size_toArray, lenV]
    exact hl
  | none =>
    have at_a : ∀ b u, (if b = a then some (HO.frz { cls := .type "list", data := .seq vs.toArray } (.lst (ns.map V.int))) else none) = some u → b = a ∧ u = HO.frz { cls := .type "list", data := .seq vs.toArray } (.lst (ns.map V.int)) := by
      intro b u z
      by_cases h : b = a
      · rw [if_pos h] at z
        exact ⟨h, (Option.some.inj z).symm⟩
      · rw [if_neg h] at z
        cases z
    refine go (fun b => if b = a then some (.frz { cls := .type "list", data := .seq vs.toArray } (.lst (ns.map V.int))) else none) ?_ (.inl (.inr ⟨_, if_pos rfl⟩)) ?_ ?_ (fun _ => hk)
    · intro b
      by_cases h : b = a
      · exact .inr ⟨_, _, if_pos h⟩
      · exact .inl (if_neg h)
    · intro b u z
      obtain ⟨rfl, rfl⟩ := at_a b u z
      refine ⟨ha, ?_, vs, _, rv, ha⟩
      rw [List.length_map]
      exact hl
    · intro b z
      by_cases h : b = a
      · exact h
      · exact (z (if_neg h)).elim

theorem walk_at63 {l : PySem.W.OpenLaw} {k : Nat} {q : Program} {loose : List Str} {XP : (Str → Option Value) → Heap → Prop} {YP : World → Heap → Prop} {d : DefRec} {K : Params → PySem.W.Frag} {sp : PySem.W.Frag → Sp}
    (hn : l.most = some 63) (hdf : d.params.defaults = []) (hr : Room k callerA) (hY : ∀ (w : World) (h : Heap), YP w h → (K w.params).In h)
    (F : ∀ (w : World) (mg : Str → Option Value) (fa : Addr) (h : Heap), (K w.params).In h → h.Ns mainGlobals mg → mg d.name = some (.ref fa) →
      ∃ fd : FuncData, (∀ (s : Shared) (u : Value), BindsTo s fd ⟨[u], []⟩ [("script", u)]) ∧
        ∀ base : Heap, (K w.params).In base → base.Ns mainGlobals mg → FnG l.prog w (K w.params) mg base CX0 k fa fd ["script"] (sp (K w.params)))
    (hsp : ∀ (K : PySem.W.Frag) (H : Hp) (a : Addr) (ns : List Int), ns.length ≤ 63 → Only H → SqL K H a (ns.map V.int) → sp K [.ref a] H (fun v _ => v = .bl true) fun _ _ _ => False) :
    PySem.W.WalkO q loose XP YP l.row.toRowW d [] (fun f vs => PySem.call f vs) := by
  apply Att.attach_call hn hdf
  intro w s₀ s₁ mg mb fa o pm cd doc a vs ns G Y ho hd hcd hmg hobj hints hlen hg
  obtain ⟨fd, hb, hF⟩ := F w mg fa _ (hY w _ Y) G.T.g hmg
  exact law_at (hY w _ Y) G.T.g G.T.b G.T.builtins G.T.nolimit hg hobj hints (Nat.le_trans hlen (by decide)) hr hF hb (fun H hO hS => hsp _ H a ns hlen hO hS)
end Gd
end
section
set_option Elab.async false
set_option maxRecDepth 100000
set_option maxHeartbeats 1000000
/-! Where no repr is under way. -/
namespace L3
open PySem PySem.Spec PyProof.Rows L2 Mx So Gd
/-- nothing is let out -/
def zNo : ZZ := ⟨fun _ _ _ _ => False, fun _ _ _ => False⟩
theorem zNo_tk {X : Cx} : LT.Takes X zNo.z := LT.takes0
theorem zNo_ze : ZE zNo E0 := fun _ _ _ _ => Iff.rfl
section
variable {P : Program} {w : World} {K : PySem.W.Frag} {mg : Str → Option Value} {base : Heap}
theorem ok3G {x qual : Str} {st : Stmt} {f : Addr} {fd : FuncData} {N ps : List Str} {k : Nat} {sp : Sp3} (F : Fun K x qual st f fd) (S : FnScope N ps (defScope st)) (len : ∀ its St Q E, sp its St Q E → its.length = ps.length)
    (hbody : ∀ (cdv : Value) (A : Around) (outer : List Env) (s : Shared) (H : Hp) (E : XK), A.guards = some [] → Room k (A.deeper (envOfC qual (defScope st) s.heap.objs.size f cdv)) →
      ∃ u, PSs3 (cxOf (LT.CX P w) P w K mg base N qual (defScope st) f cdv A outer s H E).nox zNo (defBody st) u ∧
        ∀ its St Q3 E3, sp its St Q3 E3 → u { nx := fun _ S' => Q3 (.d .none) S', rt := Q3 } (start3 N its) St) :
    FnG P w K mg base (LT.CX P w) (k + 1) f fd ps (spOf P w sp) := by
  refine body_ok F S ?_ ?_
  · rintro vs H Q E ⟨ad, St, its, Q3, E3, R, p, h, _, _⟩
    rw [Paired.length p]
    exact len its St Q3 E3 h
  · rintro cdv A outer s H vs Q E hg hr ⟨ad, St, its, Q3, E3, R, p, h, kq, kx⟩
    obtain ⟨u, hu, hq⟩ := hbody cdv A outer s H E hg hr
    obtain ⟨t, pt, up⟩ := hu.ex
    refine ⟨t, pt, ?_⟩
    refine up _ _ H ad St _ _ R ⟨slots_start p, fun _ _ _ _ _ _ _ _ _ z => z⟩ (hq its St Q3 E3 h) ⟨?_, kq, ?_, ?_⟩
    · intro σ' σi' H' ad' S' R' n' sl' z
      exact kq .non H' ad' S' (.d .none) R' n' Dt.non z
    · intro σ' σi' H' ad' S' R' n' sl' z
      exact z.elim
    · intro σ' σi' H' ad' S' R' n' sl' z
      exact z.elim
end
/-! ### repr of data: None, a truth value, a number, a tuple, a list -/
/-- what may be told -/
structure Says (d : PyData) : Prop where
  nd : d.hasDict = false
  sh : d.showable = true
  dp : d.depth ≤ 60
  sz : d.shown.length ≤ sizeLine
def rRepr (K : PySem.W.Frag) : List V → Hp → VK → Prop := fun xs H Q => ∃ (x : V) (d : PyData), xs = [x] ∧ Dp K H x d ∧ Says d ∧ (∀ z, d ≠ .str z) ∧ Q (.str d.shown) H
theorem call_reprA {X : Cx} (hG : X.A.guards = some []) (hu : X.A.units + 64 < cLine) : CallR X (.builtin "repr") (rRepr X.K) := by
  rintro pins s σ H xs us Q I r ⟨x, d, rfl, hd, hs, hn, q⟩
  cases hd with
  | non =>
    obtain ⟨u, rfl, ru⟩ := vals1 r
    obtain rfl : u = Value.none := ru
    exact PySem.P.repr_of_none ⟨.str "None", H, I.tok _, ⟨_, rfl⟩, q⟩
  | bl b =>
    obtain ⟨u, rfl, ru⟩ := vals1 r
    obtain rfl : u = Value.bool b := ru
    exact PySem.P.repr_of_bool ⟨.str (if b then "True" else "False"), H, I.tok _, ⟨_, rfl⟩, by cases b <;> exact q⟩
  | int i =>
    obtain ⟨u, rfl, t, rfl⟩ := vals1 r
    have hz : i.natAbs.log2 < 1920 := by
      have h1 := hs.sh
      simpa [PyData.showable] using h1
    exact PySem.P.repr_of_int hz ⟨.str (toString i), H, I.tok _, ⟨_, rfl⟩, q⟩
  | str z => exact (hn z rfl).elim
  | lst h1 h2 => exact call_reprD hG hu pins s σ H _ us Q I r ⟨_, _, rfl, .lst h1 h2, hs.nd, hs.sh, hs.dp, hs.sz, q⟩
  | tup h1 h2 => exact call_reprD hG hu pins s σ H _ us Q I r ⟨_, _, rfl, .tup h1 h2, hs.nd, hs.sh, hs.dp, hs.sz, q⟩
def oRepr : List Im → Sto → K3 → Prop := fun xs S Q => ∃ x d, xs = [x] ∧ imD S x d ∧ Says d ∧ (∀ z, d ≠ PyData.str z) ∧ Q (.d (.str d.shown)) S
theorem up_repr {P : Program} {w : World} {K : PySem.W.Frag} : UpL P w (rRepr K) oRepr := by
  rintro H ad S xs ixs Q Q3 R p ⟨x, d, rfl, hx, h1, h2, q⟩ k
  obtain ⟨v, rfl, hv⟩ := pr1 p
  exact ⟨v, d, rfl, imD_dp R hv hx, h1, h2, k (.str d.shown) H ad S (.d (.str d.shown)) R (Nx.refl _ _ _) (Dt.str _) q⟩
/-- == of two texts -/
theorem up_eqS {P : Program} {w : World} : Up2 P w rEq (oEq false) := up_eq
section
variable {X : Cx} {Z : ZZ} {k : Nat} {f : Addr} {fd : FuncData} {ps : List Str} {sp : Sp3} {x : Str} {p pos : Pos} {e : Expr} {es : List Expr} {tg : TA} {ug : TA3} {E : XK}
theorem e3_repr (hG : X.A.guards = some []) (hu : X.A.units + 64 < cLine) (hg : Gl X x) (hm : X.mg x = none) (hv : bootBuiltins x = some (.builtin "repr")) (ha : PA3 X Z [e] tg ug) (hn : x ≠ "__name__" := by decide) (hdb : (x == ("__debug__" : Str)) = false := by decide)
    (he : starEach [e] X.env = [(false, eval e X.env)] := by rfl) (hpl : (backTo pos (starEach [] X.env)).any (·.1) = false := by rfl) : PE3 X Z (.Call (.Name x p) [e] [] pos) (tCB (rRepr X.K) tg) (uCB oRepr ug) :=
  e3_callB (r := rRepr X.K) (call_reprA hG hu) up_repr hg hm hv ha hn hdb he hpl
theorem up_callE {P : Program} {w : World} (ze : ZE Z E) (ha : UpA P w Z tg ug) : Up P w Z (tCall (spOf P w sp) [] E tg) (uCallX sp Z.z3 ug) := by
  intro σ σi H ad S Q Q3 R sl h k
  refine ha σ σi H ad S _ _ R sl h ?_
  intro vs H1 ad1 S1 its R1 n1 p1 h1
  rw [List.append_nil]
  exact ⟨ad1, S1, its, Q3, _, R1, p1, h1, k.go n1, fun c H' ad' S' R' n' z => (ze c none σ H').mp (sl.ax c σ σi H' ad' S' R' (n1.trans n') ((sl.pr.go n1).go n') z)⟩
/-- a call of a def that may tell data by repr -/
theorem e3_callG (hG : X.A.guards = some []) (tk : LT.Takes X Z.z) (ze : ZE Z E) (F : FnG X.prog X.w X.K X.mg X.base (LT.CX X.prog X.w) k f fd ps (spOf X.prog X.w sp)) (hr : Room k X.A) (hg : Gl X x) (hm : X.mg x = some (.ref f)) (hk : PySem.W.keepIn X.K (.ref f) = true)
    (hb : Binds X.K fd ps []) (ha : PA3 X Z (e :: es) tg ug) (hdb : (x == ("__debug__" : Str)) = false := by decide) (he : starEach (e :: es) X.env = (false, eval e X.env) :: starEach es X.env := by rfl) (hpl : (backTo pos (starEach es X.env)).any (·.1) = false := by rfl) :
    PE3 X Z (.Call (.Name x p) (e :: es) [] pos) (tCall (spOf X.prog X.w sp) [] E tg) (uCallX sp Z.z3 ug) :=
  ⟨pe_callG hG F hr hg hm hk hb (pass_of tk ze) ha.pe hdb he hpl, up_callE ze ha.up⟩
end
end L3
end
section
set_option Elab.async false
set_option linter.all false
set_option maxRecDepth 100000
set_option maxHeartbeats 1000000
namespace L3
open PySem PySem.Spec PyProof.Rows L2 Mx So Gd

/-! ### new dicts -/
def uDNewK : TE3 := fun _ S Q => New S fun c => Q (.l c) (S.put c (.dk []))
def uDNewT : TE3 := fun _ S Q => New S fun c => Q (.l c) (S.put c (.dt []))
section
variable {P : Program} {w : World} {K : PySem.W.Frag} {Z : ZZ} {X : Cx} {pos : Pos}
theorem e3_dnewK : PE3 X Z (.Dict [] [] pos) tDNewK uDNewK := by
  refine ⟨pe_dnewK, ?_⟩
  intro σ σi H ad S Q Q3 R sl n k a ha
  obtain ⟨ad2, c, R2, n2, e2, _, q2⟩ := new_at (o := .dK []) (e := .dk []) R n ha fun ad' c n => ⟨[], upd_same, .nil⟩
  exact k (.ref a) _ ad2 _ (.l c) R2 n2 ⟨by rw [e2], by rw [put_same]; exact fun z => nomatch z⟩ q2
theorem e3_dnewT : PE3 X Z (.Dict [] [] pos) tDNewT uDNewT := by
  refine ⟨pe_dnewT, ?_⟩
  intro σ σi H ad S Q Q3 R sl n k a ha
  obtain ⟨ad2, c, R2, n2, e2, _, q2⟩ := new_at (o := .dT []) (e := .dt []) R n ha fun ad' c n => ⟨[], upd_same, .nil⟩
  exact k (.ref a) _ ad2 _ (.l c) R2 n2 ⟨by rw [e2], by rw [put_same]; exact fun z => nomatch z⟩ q2

/-! ### the keys of a dict of tuples, sorted pairs -/
def rKeysT : List V → Hp → VK → Prop := fun xs H Q => ∃ d kvs, xs = [V.ref d] ∧ Rd H d (.dT kvs) ∧ ∀ p bs, H p = none → IsKeys H kvs bs → Q (.ref p) (upd H p (.lst (bs.map V.ref)))
def oKeysT : List Im → Sto → K3 → Prop := fun xs S Q => ∃ (c : L) (kvs : List (List Key × Im)), xs = [.l c] ∧ S c = some (.dt kvs) ∧ New S fun c' => Q (.l c') (S.put c' (.lst (kvs.map fun p => .d (.tuple (p.1.map kD)))))
theorem dts_key {H : Hp} : ∀ ks : List Key, Dts H (ks.map kV) (ks.map kD)
  | [] => .nil
  | .inl i :: r => .cons (.int i) (dts_key r)
  | .inr x :: r => .cons (.str x) (dts_key r)
theorem keys_items {H : Hp} {ad : L → Addr} {S : Sto} {R : V → Im → Prop} : ∀ {ps : List (List Key × V)} {kvs : List (List Key × Im)} {bs : List Addr}, Paired (KvR R) ps kvs → IsKeys H ps bs → Paired (ItAt H ad S) (bs.map V.ref) (kvs.map fun p => .d (.tuple (p.1.map kD)))
  | _, _, _, .nil, .nil => .nil
  | p :: _, q :: _, _, .cons h t, .cons g u => by
    refine .cons ?_ (keys_items t u)
    have e : p.1 = q.1 := h.1
    show Dt H _ _
    rw [← e]
    exact .tup (.inl g) (dts_key _)
theorem up_keysT : UpL P w rKeysT oKeysT := by
  rintro H ad S xs ixs Q Q3 R p ⟨c, kvs, rfl, hc, n⟩ k
  obtain ⟨v, rfl, hv⟩ := pr1 p
  obtain ⟨rfl, _⟩ := hv
  obtain ⟨ps, h1, h2⟩ := R.at_ c _ hc
  exact ⟨_, ps, rfl, .inl h1, fun p bs hp hk => new_lst R (keys_items h2 hk) k n hp⟩
/-- a pair of numbers at x -/
def pairOf (H : Hp) : V → Int × Int
  | .ref t => match H t with
    | some (.tup [.int i, .int j]) => (i, j)
    | _ => (0, 0)
  | _ => (0, 0)
def prD (p : Int × Int) : PyData := .tuple [.int p.1, .int p.2]
theorem pair_at {H : Hp} {v : V} {p : Int × Int} (h : Dt H v (prD p)) : pairOf H v = p ∧ ∃ t, v = .ref t ∧ H t = some (.tup [.int p.1, .int p.2]) := by
  obtain ⟨t, xs, rfl, h1, h2⟩ := Dt.tupI h
  have e : xs = [p.1, p.2].map V.int := dts_int (ts := [p.1, p.2]) h2
  subst e
  have h1 := h1.plain (by show (2 : Nat) ≠ 1; decide)
  refine ⟨?_, t, rfl, h1⟩
  have h1' : H t = some (.tup [.int p.1, .int p.2]) := h1
  simp only [pairOf, h1']
def oSortP : List Im → Sto → K3 → Prop := fun xs S Q => ∃ (c : L) (ps : List (Int × Int)), xs = [.l c] ∧ S c = some (.lst (ps.map fun p => .d (prD p))) ∧
  ∀ qs : List (Int × Int), qs.Perm ps → qs.Pairwise (fun a b => SrtO.lexB b a = false) → New S fun c' => Q (.l c') (S.put c' (.lst (qs.map fun p => .d (prD p))))
theorem pr_mem {α β : Type} {R : α → β → Prop} : ∀ {xs : List α} {ys : List β}, Paired R xs ys → ∀ x ∈ xs, ∃ y ∈ ys, R x y
  | _, _, .nil, _, h => by cases h
  | _, _, .cons h t, x, hx => by
    rcases List.mem_cons.mp hx with rfl | hx
    · exact ⟨_, List.mem_cons_self, h⟩
    · obtain ⟨y, hy, r⟩ := pr_mem t x hx
      exact ⟨y, List.mem_cons_of_mem _ hy, r⟩
theorem pairs_map {H : Hp} {ad : L → Addr} {S : Sto} : ∀ {xs : List V} {ps : List (Int × Int)}, Paired (ItAt H ad S) xs (ps.map fun p => .d (prD p)) → xs.map (pairOf H) = ps
  | _, [], .nil => rfl
  | _, p :: ps, .cons h t => by rw [List.map_cons, (pair_at h).1, pairs_map t]
theorem pairs_items {H : Hp} {ad : L → Addr} {S : Sto} : ∀ {ys : List V}, (∀ y ∈ ys, Dt H y (prD (pairOf H y))) → Paired (ItAt H ad S) ys ((ys.map (pairOf H)).map fun p => .d (prD p))
  | [], _ => .nil
  | y :: ys, h => .cons (h y List.mem_cons_self) (pairs_items fun z hz => h z (List.mem_cons_of_mem _ hz))
theorem up_sortP : UpL P w (rSortedPO K) oSortP := by
  rintro H ad S xs ixs Q Q3 R p ⟨c, ps, rfl, hc, q⟩ k
  obtain ⟨v, rfl, hv⟩ := pr1 p
  obtain ⟨rfl, _⟩ := hv
  obtain ⟨ys, h1, h2⟩ := R.at_ c _ hc
  have at_ : ∀ y ∈ ys, Dt H y (prD (pairOf H y)) ∧ ∃ t, y = V.ref t ∧ H t = some (.tup [.int (pairOf H y).1, .int (pairOf H y).2]) := by
    intro y hy
    obtain ⟨im, him, hi⟩ := pr_mem h2 y hy
    obtain ⟨z, _, rfl⟩ := List.mem_map.mp him
    have e := pair_at hi
    rw [e.1]
    exact ⟨hi, e.2⟩
  refine ⟨_, ys, pairOf H, rfl, SqL.of h1, fun y hy => (at_ y hy).2, fun zs l hs st hl => ?_⟩
  refine new_lst R (pairs_items fun z hz => (at_ z (st.perm.subset hz)).1) k (q (zs.map (pairOf H)) ?_ ?_) hl
  · rw [← pairs_map h2]
    exact st.perm.map _
  · exact List.pairwise_map.mpr hs

/-! ### -i, max, min, or -/
def oNeg : Im → Sto → K3 → Prop := fun x S Q => ∃ i, x = .d (.int i) ∧ Q (.d (.int (-i))) S
theorem up_neg : Up1 P w (rU fun i => .int (-i)) oNeg := by
  rintro H ad S x ix Q Q3 R hx ⟨i, rfl, q⟩ k
  exact ⟨i, Dt.intI hx, k _ H ad S (.d (.int (-i))) R (Nx.refl _ _ _) (Dt.int _) q⟩
def rMM (f : Int → Int → Int) : List V → Hp → VK → Prop := fun xs H Q => ∃ i j, xs = [.int i, .int j] ∧ Q (.int (f i j)) H
def oMM (f : Int → Int → Int) : List Im → Sto → K3 → Prop := fun xs S Q => ∃ i j, xs = [.d (.int i), .d (.int j)] ∧ Q (.d (.int (f i j))) S
theorem up_MM {f : Int → Int → Int} : UpL P w (rMM f) (oMM f) := by
  rintro H ad S xs ixs Q Q3 R p ⟨i, j, rfl, q⟩ k
  obtain ⟨v, u, rfl, i1, i2⟩ := pr2 p
  have e1 := Dt.intI i1
  have e2 := Dt.intI i2
  subst e1 e2
  exact ⟨i, j, rfl, k _ H ad S (.d (.int _)) R (Nx.refl _ _ _) (Dt.int _) q⟩
def uOrT (u v : TE3) : TE3 := fun σ S Q => u σ S fun x S1 => ∃ k, truI S1 x k ∧ if k = true then Q x S1 else v σ S1 Q
theorem e3_orT {a b : Expr} {rest : List Expr} {ta tb : TE} {ua ub : TE3} (h : PE3 X Z a ta ua) (g : PE3 X Z (.BoolOp .Or (b :: rest) pos) tb ub) : PE3 X Z (.BoolOp .Or (a :: b :: rest) pos) (tOrT X.K ta tb) (uOrT ua ub) := by
  obtain ⟨p, q⟩ := h
  obtain ⟨p2, q2⟩ := g
  refine ⟨pe_orT p p2, ?_⟩
  intro σ σi H ad S Q Q3 R sl z k
  refine q σ σi H ad S _ _ R sl z ?_
  rintro v H1 ad1 S1 it R1 n1 i1 ⟨c, hc, z1⟩
  refine ⟨c, tru_of R1 i1 hc, ?_⟩
  cases c with
  | false => exact q2 σ σi H1 ad1 S1 Q Q3 R1 (sl.go n1) z1 (k.go n1)
  | true => exact k v H1 ad1 S1 it R1 n1 i1 z1
end
end L3
end
section
set_option Elab.async false
set_option linter.all false
set_option maxRecDepth 100000
set_option maxHeartbeats 1000000
namespace L3
open PySem PySem.Spec PyProof.Rows L2 Mx So Gd
/-! ### isinstance of data -/
def tyN : PyData → String
  | .none => "NoneType"
  | .bool _ => "bool"
  | .int _ => "int"
  | .str _ => "str"
  | .tuple _ => "tuple"
  | .list _ => "list"
  | .dict _ => "dict"
theorem dt_ty {K : PySem.W.Frag} {H : Hp} {v : V} {d : PyData} (h : Dt H v d) : TyX K H v (.type (tyN d)) := by
  cases h with
  | non => exact .base .non
  | bl b => exact .base (.bl b)
  | int i => exact .base (.int i)
  | str x => exact .base (.str x)
  | tup h1 h2 =>
    rcases h1 with h1 | ⟨_, ob, h1⟩
    · exact .base (.tup h1)
    · exact .fTuple h1
def uIsi (n : String) (u : TE3) : TE3 := fun σ S Q => u σ S fun x S1 => ∃ d b, x = .d d ∧ kitB (tyN d) n = some b ∧ Q (.d (.bool b)) S1
def uChain (r r' : R3) (ua ub uc : TE3) : TE3 := fun σ S Q => ua σ S fun x S1 => ub σ S1 fun y S2 => r x y S2 fun z S3 => ∃ k, z = .d (.bool k) ∧ (if k = true then uc σ S3 fun w S4 => r' y w S4 Q else Q (.d (.bool false)) S3)
def oAll : List Im → Sto → K3 → Prop := fun xs S Q => ∃ (c : L) (bs : List Bool), xs = [.l c] ∧ S c = some (.lst (bs.map fun b => .d (.bool b))) ∧ Q (.d (.bool (bs.all id))) S
theorem pr_bl {H : Hp} {ad : L → Addr} {S : Sto} : ∀ {ts : List Bool} {vs : List V}, Paired (ItAt H ad S) vs (ts.map fun n => .d (.bool n)) → vs = ts.map .bl
  | [], _, .nil => rfl
  | t :: ts, _, h => by
    cases h with
    | cons h1 h2 => rw [List.map_cons, pr_bl h2, Dt.blI h1]
theorem up_all {P : Program} {w : World} {K : PySem.W.Frag} : UpL P w (rAll K) oAll := by
  rintro H ad S xs ixs Q Q3 R p ⟨c, bs, rfl, hc, q⟩ k
  obtain ⟨v, rfl, hv⟩ := pr1 p
  obtain ⟨rfl, _⟩ := hv
  obtain ⟨ys, h1, h2⟩ := R.at_ c _ hc
  have e := pr_bl h2
  subst e
  exact ⟨_, bs, rfl, SqL.of h1, k _ H ad S (.d (.bool _)) R (Nx.refl _ _ _) (Dt.bl _) q⟩
section
variable {X : Cx} {Z : ZZ} {x y : Str} {p q pos : Pos} {e a b c : Expr} {th ta tb tc : TE} {u ua ub uc : TE3} {tg : TA} {ug : TA3}
theorem e3_isi (n : String) (hg : Gl X x) (hm : X.mg x = none) (hv : bootBuiltins x = some (.builtin "isinstance")) (he : PE3 X Z e th u) (gy : Gl X y) (my : X.mg y = none) (vy : bootBuiltins y = some (.type n))
    (hn : x ≠ "__name__" := by decide) (hdb : (x == ("__debug__" : Str)) = false := by decide) (hn2 : y ≠ "__name__" := by decide) (hd2 : (y == ("__debug__" : Str)) = false := by decide)
    (hst : starEach [e, .Name y q] X.env = (false, eval e X.env) :: starEach [.Name y q] X.env := by rfl) (hst2 : starEach [.Name y q] X.env = (false, eval (.Name y q) X.env) :: starEach [] X.env := by rfl)
    (hpl : (backTo pos (starEach [.Name y q] X.env)).any (·.1) = false := by rfl) : PE3 X Z (.Call (.Name x p) [e, .Name y q] [] pos) (tCB (rIsi X.K) (tCons th (tCons (tC (.ty n)) tNil))) (uIsi n u) := by
  obtain ⟨pe, up⟩ := he
  refine ⟨pe_callB call_isi hg hm hv (pa_cons pe (pa_cons (pe_bltn gy my vy (v := .ty n) rfl hn2 hd2) pa_nil hst2) hst) hn hdb hst hpl, ?_⟩
  intro σ σi H ad S Q Q3 R sl z k
  refine up σ σi H ad S _ _ R sl z ?_
  rintro v H1 ad1 S1 it R1 n1 i1 ⟨d, b, rfl, hb, z1⟩
  exact ⟨v, .ty n, _, .type n, b, rfl, .ty n, dt_ty i1, kit_ty hb, k (.bl b) H1 ad1 S1 (.d (.bool b)) R1 n1 (Dt.bl b) z1⟩
theorem e3_chain {op op' : CmpOp} {r r' : R2} {r3 r3' : R3} (ho : OpR X (compareOp op) r) (ho' : OpR X (compareOp op') r') (hr : Up2 X.prog X.w r r3) (hr' : Up2 X.prog X.w r' r3') (ha : PE3 X Z a ta ua) (hb : PE3 X Z b tb ub) (hc : PE3 X Z c tc uc)
    (hm : lastMarks [op, op'] [b, c] = false := by with_unfolding_all rfl) : PE3 X Z (.Compare a [op, op'] [b, c] pos) (tChain r r' ta tb tc) (uChain r3 r3' ua ub uc) := by
  obtain ⟨pa, ha⟩ := ha
  obtain ⟨pb, hb⟩ := hb
  obtain ⟨pc, hc⟩ := hc
  refine ⟨pe_chain ho ho' pa pb pc hm, ?_⟩
  intro σ σi H ad S Q Q3 R sl z k
  refine ha σ σi H ad S _ _ R sl z ?_
  intro x H1 ad1 S1 ix R1 n1 i1 z1
  refine hb σ σi H1 ad1 S1 _ _ R1 (sl.go n1) z1 ?_
  intro y H2 ad2 S2 iy R2 n2 i2 z2
  refine hr H2 ad2 S2 x y ix iy _ _ R2 (n2.it i1) i2 z2 ?_
  rintro v H3 ad3 S3 it R3 n3 i3 ⟨kk, rfl, z3⟩
  have n13 := (n1.trans n2).trans n3
  refine ⟨kk, Dt.blI i3, ?_⟩
  cases kk with
  | false => exact k (.bl false) H3 ad3 S3 (.d (.bool false)) R3 n13 (Dt.bl false) z3
  | true =>
    refine hc σ σi H3 ad3 S3 _ _ R3 (sl.go n13) z3 ?_
    intro w H4 ad4 S4 iw R4 n4 i4 z4
    exact hr' H4 ad4 S4 y w iy iw Q Q3 R4 (n4.it (n3.it i2)) i4 z4 (k.go (n13.trans n4))
theorem e3_all (hc : X.calm = true) (hg : Gl X x) (hm : X.mg x = none) (hv : bootBuiltins x = some (.builtin "all")) (ha : PA3 X Z [e] tg ug) (hn : x ≠ "__name__" := by decide) (hdb : (x == ("__debug__" : Str)) = false := by decide)
    (he : starEach [e] X.env = [(false, eval e X.env)] := by rfl) (hpl : (backTo pos (starEach [] X.env)).any (·.1) = false := by rfl) : PE3 X Z (.Call (.Name x p) [e] [] pos) (tCB (rAll X.K) tg) (uCB oAll ug) :=
  e3_callB (r := rAll X.K) (cr_all hc) up_all hg hm hv ha hn hdb he hpl
end
end L3
end
section
set_option Elab.async false
set_option linter.all false
set_option maxRecDepth 100000
set_option maxHeartbeats 1000000
namespace L3
open PySem PySem.Spec PyProof.Rows L2 Mx So Gd
/-! ### list(d.values()), the keys of d being tuples -/
def tValsT (td : TE) : TE := fun σ H Q => td σ H fun x H1 => ∃ d kvs, x = .ref d ∧ H1 d = some (.dT kvs) ∧ ∀ p, H1 p = none → Q (.ref p) (upd H1 p (.lst (kvs.map (·.2))))
theorem pe_valsT {X : Cx} {e : Expr} {td : TE} {p apos cpos pos : Pos} (hc : X.calm = true) (he : PE X e td) (hg : Gl X "list") (hm : X.mg "list" = none) (hv : bootBuiltins "list" = some (.type "list")) (hbase : attributeBase e "values" X.env (eval e X.env) = eval e X.env := by rfl) (hline : (apos.endLine == cpos.line) = true := by rfl)
    (hs : starEach [.Call (.Attribute e "values" apos) [] [] cpos] X.env = (false, eval (.Call (.Attribute e "values" apos) [] [] cpos) X.env) :: starEach [] X.env := by rfl) :
    PE X (.Call (.Name "list" p) [.Call (.Attribute e "values" apos) [] [] cpos] [] pos) (tValsT td) := by
  constructor
  intro pins s σ H Q I hq
  apply wpAny_Call_Name_kw
  apply ld_blt I hg hm hv
  apply PyProof.Rows.callWith_type1 _ hs rfl
  rw [hs]
  show wpAny _ _ (spliced ((false, eval (.Call (.Attribute e "values" apos) [] [] cpos) X.env) :: backTo pos (starEach [] X.env))) _ _ s
  apply Calls.spliced_cons
  apply wpAny_Call_method (T := "dict") (id := "dict.values") hbase rfl hline PySem.F.plainAttrs_dict PySem.F.slot_dict_values PySem.F.type_dict_values
  refine thn (he.run pins s σ H _ I hq) ?_
  rintro u s1 ⟨x, H1, I1, rx, d, kvs, rfl, hd, q⟩
  obtain rfl : u = Value.ref d := rx
  obtain ⟨z, hs0, ks, pr, o, es, ep, ho, hx, hdt, he2, hn⟩ := (show ObjOk X.prog X.w H1 s1.heap d (.dT kvs) from I1.hok d _ hd)
  have raw : s1.heap.DictRaw d es ep := ⟨o, ho, hx, hdt⟩
  have sz : kvs.length = ks.length := Paired.length pr
  have se : es.size = ks.length := size_of_entries he2
  refine ⟨⟨o, ho, hx.1⟩, fun a e => by
    cases e
    exact ⟨o, ho, hx.2.1⟩, ?_⟩
  show wpAny _ _ (callWith cpos (.builtin "dict.values") [.ref d] [] []) _ X.xe s1
  refine method_meetsIn PySem.F.slot_dict_values PySem.F.entry_dict_values rfl (PySem.evalArgs_none ⟨rfl, ⟨o, ho, hx.1⟩, PySem.F.args_dict_values_1 _, _, PySem.meets_dict_values_raw d hs0, ⟨⟨es, ep, raw⟩, ?_⟩⟩)
  apply Calls.spliced_nil
  have I2 : Inv X pins σ H1 { s1 with heap := s1.heap.push { cls := .type "dict_values", data := .fields #[.ref d] } } := I1.kept (t' := s1.toks) fun b ob q => Heap.get?_push_of_some _ q
  have view : (s1.heap.push { cls := .type "dict_values", data := .fields #[.ref d] }).IsValuesView s1.heap.objs.size d := ⟨_, Heap.get?_push_size _ rfl, rfl, rfl⟩
  refine PySem.W.kdl_call (PySem.KdlSrc.rawValues (d := d) (es := es) (ep := ep)) (I1.ok.hd hc) ⟨view, raw.push _⟩ (by omega) ?_
  intro h' tk acc c kp gl it
  have vals : Vals (kvs.map (·.2)) acc.toList := by
    have len : acc.toList.length = ks.length := by rw [Array.length_toList, it.1, se]
    have each : ∀ (j : Nat) (v : Value), acc.toList[j]? = some v → ∃ b : List Key × Addr × Value, ks[j]? = some b ∧ v = b.2.2 := by
      intro j v hj
      obtain ⟨hi, hvv⟩ := it.2 j v (by rw [← Array.getElem?_toList]; exact hj)
      have qe := entry_at he2 j
      rw [Array.getElem?_eq_getElem hi] at qe
      cases hb : ks[j]? with
      | none =>
        rw [hb] at qe
        cases qe
      | some b =>
        rw [hb] at qe
        have e2 : es[j] = entryOfKey (tupleKind (mixKind X.prog X.w)) b := Option.some.inj qe
        refine ⟨b, rfl, ?_⟩
        rw [hvv, e2]
        rfl
    have eq : acc.toList = ks.map fun b => b.2.2 := by
      apply List.ext_getElem?
      intro j
      rw [List.getElem?_map]
      cases hj : acc.toList[j]? with
      | none =>
        have h1 := List.getElem?_eq_none_iff.mp hj
        rw [List.getElem?_eq_none (by omega)]
        rfl
      | some v =>
        obtain ⟨b, hb, rfl⟩ := each j v hj
        rw [hb]
        rfl
    rw [eq]
    clear eq each len it gl kp se he2 hn sz q hd z
    induction pr with
    | nil => exact .nil
    | cons h t ih => exact .cons h.2.2 ih
  have hz : (kvs.map (·.2)).length ≤ sizeLine := by
    rw [List.length_map]
    exact z
  exact ⟨.ref _, _, I2.laid (t' := tk) (o := .lst (kvs.map (·.2))) kp (Nat.le_refl _) ⟨hz, acc.toList, c, vals, by rw [Array.toArray_toList]; exact gl⟩, rfl, q _ (I2.hok.fresh (Nat.le_refl _))⟩
def uValsT (u : TE3) : TE3 := fun σ S Q => u σ S fun x S1 => ∃ (c : L) (kvs : List (List Key × Im)), x = .l c ∧ S1 c = some (.dt kvs) ∧ New S1 fun c' => Q (.l c') (S1.put c' (.lst (kvs.map (·.2))))
theorem vals_items {R : V → Im → Prop} : ∀ {ps : List (List Key × V)} {kvs : List (List Key × Im)}, Paired (KvR R) ps kvs → Paired R (ps.map (·.2)) (kvs.map (·.2))
  | _, _, .nil => .nil
  | _, _, .cons h t => .cons h.2 (vals_items t)
theorem e3_valsT {X : Cx} {Z : ZZ} {e : Expr} {th : TE} {u : TE3} {p apos cpos pos : Pos} (hc : X.calm = true) (he : PE3 X Z e th u) (hg : Gl X "list") (hm : X.mg "list" = none) (hv : bootBuiltins "list" = some (.type "list")) (hbase : attributeBase e "values" X.env (eval e X.env) = eval e X.env := by rfl) (hline : (apos.endLine == cpos.line) = true := by rfl)
    (hs : starEach [.Call (.Attribute e "values" apos) [] [] cpos] X.env = (false, eval (.Call (.Attribute e "values" apos) [] [] cpos) X.env) :: starEach [] X.env := by rfl) :
    PE3 X Z (.Call (.Name "list" p) [.Call (.Attribute e "values" apos) [] [] cpos] [] pos) (tValsT th) (uValsT u) := by
  obtain ⟨q, up⟩ := he
  refine ⟨pe_valsT hc q hg hm hv hbase hline hs, ?_⟩
  intro σ σi H ad S Q Q3 R sl z k
  refine up σ σi H ad S _ _ R sl z ?_
  rintro v H1 ad1 S1 it R1 n1 i1 ⟨c, kvs, rfl, hc, n⟩
  obtain ⟨rfl, _⟩ := i1
  obtain ⟨ps, h1, h2⟩ := R1.at_ c _ hc
  exact ⟨_, ps, rfl, h1, fun p hp => new_lst R1 (vals_items h2) (k.go n1) n hp⟩
/-! ### what only lays down things without a name -/
structure Lays (S S' : Sto) : Prop where
  nt : ∀ c, (∀ p, c ≠ .t p) → S' c = S c
  ex : ∀ c, S c ≠ none → S' c = S c
theorem Lays.refl (S : Sto) : Lays S S := ⟨fun _ _ => rfl, fun _ _ => rfl⟩
theorem Lays.trans {S S1 S2 : Sto} (x : Lays S S1) (y : Lays S1 S2) : Lays S S2 := ⟨fun c h => (y.nt c h).trans (x.nt c h), fun c h => (y.ex c (by rw [x.ex c h]; exact h)).trans (x.ex c h)⟩
theorem Lays.new {S S1 : Sto} {p : Addr} {e : Ce} (x : Lays S S1) (h : S1 (.t p) = none ∨ S (.t p) = none) : Lays S (S1.put (.t p) e) := by
  refine ⟨fun d hd => ?_, fun d hd => ?_⟩
  · rw [put_ne (hd p)]
    exact x.nt d hd
  · rw [put_ne (fun z => ?_)]
    · exact x.ex d hd
    · subst z
      rcases h with h | h
      · rw [x.ex _ hd] at h
        exact hd h
      · exact hd h
theorem yes3 {σ : St3} {S : Sto} {A B : Sto → Prop} (h : A S) : uYes σ S (fun b S3 => if b = true then A S3 else B S3) := by
  show (if true = true then A S else B S)
  rw [if_pos rfl]
  exact h
/-- [f(x) for x in it if t(x)]: the items by number, the ones that are taken, what is made of them -/
theorem lc_go {wi : TI3} {j : Nat} {tt : TT3} {te : TE3} {vs : List Nat} {σ : St3} {S : Sto} {Q : K3} {xs : List Im} {g : Im → Bool} {y : Im → Im}
    (hi : ∀ R : Wk → Sto → Prop, (∀ W S1, Lays S S1 → W.n = xs.length → (∀ i it, W.item i it → xs[i]? = some it) → (∀ S', Lays S1 S' → W.ok S') → R W S1) → wi σ S R) (hl : xs.length < sizeLine)
    (ht : ∀ it ∈ xs, ∀ (S' : Sto) (Q' : Bool → Sto → Prop), Lays S S' → Q' (g it) S' → tt ((wipe3 σ vs).set j (some it)) S' Q')
    (h : ∀ it ∈ xs, g it = true → ∀ (S' : Sto) (Q' : K3), Lays S S' → (∀ S4, Lays S' S4 → Q' (y it) S4) → te ((wipe3 σ vs).set j (some it)) S' Q')
    (k : ∀ (S' : Sto) (p : Addr), Lays S S' → S (.t p) = none → S' (.t p) = some (.lst ((xs.filter g).map y)) → Q (.l (.t p)) S') : uLc wi (.one j) tt te vs σ S Q := by
  refine hi _ fun W S1 l1 hn hx hok => .inl fun p hp => ?_
  have hp0 : S (.t p) = none := by
    cases e : S (.t p) with
    | none => rfl
    | some u =>
      rw [l1.ex _ (by rw [e]; exact fun z => nomatch z), e] at hp
      cases hp
  refine ⟨fun n S' => S' (.t p) = some (.lst (((xs.take n).filter g).map y)) ∧ Lays S1 S', ⟨put_same, (Lays.refl S1).new (.inl hp)⟩, fun _ _ _ h => hok _ h.2, ?_, ?_⟩
  · rintro n it S' hlt hit ⟨h1, h2⟩
    have hx' := hx n it hit
    have mem := List.mem_of_getElem? hx'
    refine ⟨_, rfl, ht it mem S' _ (l1.trans h2) ?_⟩
    have step : (xs.take (n + 1)).filter g = (xs.take n).filter g ++ (if g it = true then [it] else []) := by
      rw [List.take_add_one, hx', List.filter_append]
      cases e : g it with
      | true => simp [e]
      | false => simp [e]
    cases e : g it with
    | false =>
      show (if false = true then _ else _)
      rw [if_neg (by decide)]
      refine ⟨?_, h2⟩
      rw [h1, step, e]
      simp
    | true =>
      show (if true = true then _ else _)
      rw [if_pos rfl]
      refine h it mem e S' _ (l1.trans h2) fun S4 h4 => ?_
      have e4 : S4 (.t p) = some (.lst (((xs.take n).filter g).map y)) := by
        rw [h4.ex _ (by rw [h1]; exact fun z => nomatch z)]
        exact h1
      refine ⟨_, e4, ?_, ?_, ?_⟩
      · have h5 := List.length_filter_le g (xs.take n)
        rw [List.length_take] at h5
        rw [List.length_map]
        omega
      · rw [put_same, step, e]
        simp
      · exact (h2.trans h4).new (.inr hp)
  · rintro S' ⟨h1, h2⟩
    have h1' : S' (.t p) = some (.lst (((xs.take W.n).filter g).map y)) := h1
    rw [hn, List.take_length] at h1'
    exact k S' p (l1.trans h2) hp0 h1'
end L3
end
section
set_option Elab.async false
set_option linter.all false
set_option maxRecDepth 100000
set_option maxHeartbeats 1000000
/-! Dict comprehensions whose keys are tuples. -/
namespace Mx
open PySem PySem.Spec PyProof.Rows L2
theorem key_agree {bs bs' : GK → Addr} {kvs : List (GK × V)} {xs : List (GK × Value × Value)} (r : Paired (EntP bs) kvs xs) (h : ∀ p ∈ kvs, bs' p.1 = bs p.1) : Paired (EntP bs') kvs xs := by
  induction r with
  | nil => exact .nil
  | @cons p q ps qs h1 t ih =>
    refine .cons ⟨h1.1, ?_, h1.2.2⟩ (ih fun p hp => h p (List.mem_cons_of_mem _ hp))
    have e := h p List.mem_cons_self
    rw [h1.1] at e
    have k := h1.2.1
    cases hq : q.1 with
    | inl x =>
      rw [hq] at k
      exact k
    | inr l =>
      rw [hq] at k e
      have k' : q.2.1 = .ref (bs (.inr l)) := k
      show q.2.1 = .ref (bs' (.inr l))
      rw [e]
      exact k'
/-- where the keys stand matters for the keys alone -/
theorem mx_agree {P : Program} {w : World} {a : Addr} {kvs : List (GK × V)} {bs bs' : GK → Addr} {h : Heap} (m : MxAt P w a kvs bs h) (g : ∀ p ∈ kvs, bs' p.1 = bs p.1) : MxAt P w a kvs bs' h := by
  obtain ⟨z, y, xs, r, rest⟩ := m
  exact ⟨z, y, xs, key_agree r g, rest⟩
section
variable {X : Cx} {pins : List (Addr × Obj)} {σ : L2.St} {H : Hp} {s : Shared} {a : Addr} {kvs : List (GK × V)} {bs : GK → Addr} {k : GK} {y v : V} {u : Value} {A : Around} {E : Value → Shared → Prop}
/-- a new key by a comprehension -/
theorem mx_add {l : List Key} {r' : Value} {Q : Unit → Shared → Prop} (hu : A.units < cLine) (I : Inv X pins σ H s) (e : H a = some (MxO X.prog X.w a kvs bs)) (ks : KeysAt H kvs bs) (hk : IsK H (.inr l) y) (ry : RelV y u) (rv : RelV v r')
    (hb : y = .ref (bs (.inr l))) (hl : kvs.length < sizeLine) (hne : ∀ p ∈ kvs, p.1 ≠ .inr l)
    (h : ∀ s', Inv X pins σ (upd H a (MxO X.prog X.w a (kvs ++ [(.inr l, v)]) bs)) s' → Q () s') : wpAny (model X.prog X.w) A (dictSet a u r') Q E s := by
  obtain ⟨z, hd, xs, r, his, o, es, ep, ho, hx, hdt, he, hn⟩ := mx_open I.hok e ks
  have hkey := isK_gis I.hok hk ry
  have hmut : Mut (H a) := by
    rw [e]
    exact True.intro
  have len : (kvs ++ [((.inr l : GK), v)]).length ≤ sizeLine := by
    rw [List.length_append]
    exact hl
  have hz : es.size ≤ sizeLine := by
    rw [gent_size he, ← Paired.length r]
    exact z
  have no : ∀ (j : Nat) (p : Value × Value), xs[j]? ≠ some (.inr l, p) := by
    intro j p hj
    have m : (Sum.inr l : GK) ∈ kvs.map (·.1) := by
      rw [ent_keys r]
      exact List.mem_map.mpr ⟨_, List.mem_of_getElem? hj, rfl⟩
    obtain ⟨p, hp, ep⟩ := List.mem_map.mp m
    exact hne p hp ep
  unfold dictSet
  try with_reducible refine wpAny_holding ?_
  apply wpAny_bind
  apply gis_hash hu hkey
  unfold dictSetHashed
  try with_reducible refine wpAny_holding ?_
  apply wpAny_bind
  refine gfind (s := { s with toks := s.toks + gdraws (.inr l) }) hu hkey ho hdt he his hn (.inl ⟨l, rfl⟩) ?_ ?_
  · intro _
    apply wpAny_bind
    apply wpAny_rule
    refine wpAny_updateDictKeys (hz := hz) (s := { s with toks := s.toks + gdraws (.inr l) }) ho hdt ?_
    refine h _ (d_write (t' := s.toks + gdraws (.inr l)) (I.tok (s.toks + gdraws (.inr l))) hmut (Heap.SameBut.update ..) ⟨_, Heap.get?_update_self _ ho (Obj.isFreed_of_dict (Obj.data_mapDictKeys hdt _))⟩ (mx_new ?_))
    refine ⟨len, hd, xs ++ [(.inr l, u, r')], Paired.app r (.cons ⟨rfl, ?_, rv⟩ .nil), _, _, ep + 1, Heap.get?_update_self _ ho (Obj.isFreed_of_dict (Obj.data_mapDictKeys hdt _)), hx.mapDictKeys _, Obj.data_mapDictKeys hdt _, ?_, ?_⟩
    · subst hb
      exact ry
    · rw [Array.toList_push, he, List.map_append]
      rfl
    · rw [List.map_append, List.nodup_append]
      refine ⟨hn, by simp, ?_⟩
      intro x hx y hy
      simp only [List.map_cons, List.map_nil, List.mem_singleton] at hy
      subst hy
      rintro rfl
      obtain ⟨q, hq, eq⟩ := List.mem_map.mp hx
      obtain ⟨j, hj⟩ := List.mem_iff_getElem?.mp hq
      exact no j q.2 (by rw [hj, ← eq])
  · intro j p hj
    exact (no j p hj).elim
end
/-- d[y] = z by a comprehension: the first key, or a new one -/
def AddM (P : Program) (w : World) (H : Hp) (D : Addr) (y z : V) (H' : Hp) : Prop :=
  (∃ l b, H D = some (.dK []) ∧ y = .ref b ∧ TupA H b (l.map kV) ∧ H' = upd H D (MxO P w D [(.inr l, z)] fun _ => b)) ∨
  ∃ kvs bs l b, H D = some (MxO P w D kvs bs) ∧ KeysAt H kvs bs ∧ y = .ref b ∧ TupA H b (l.map kV) ∧ (∀ p ∈ kvs, p.1 ≠ .inr l) ∧ kvs.length < sizeLine ∧
    H' = upd H D (MxO P w D (kvs ++ [(.inr l, z)]) fun k => if k = .inr l then b else bs k)
theorem addM_ok {X : Cx} {pins : List (Addr × Obj)} {σ : L2.St} {H H' : Hp} {s : Shared} {D : Addr} {y z : V} {u r : Value} {A : Around} {E : Value → Shared → Prop} {Q : Unit → Shared → Prop} (hu : A.units < cLine) (I : Inv X pins σ H s) (a : AddM X.prog X.w H D y z H') (ry : RelV y u) (rz : RelV z r)
    (h : ∀ s', Inv X pins σ H' s' → Q () s') : wpAny (model X.prog X.w) A (dictSet D u r) Q E s := by
  rcases a with ⟨l, b, e, rfl, hb, rfl⟩ | ⟨kvs, bs, l, b, e, ks, rfl, hb, hne, hl, rfl⟩
  · have m := mx_of_dk I.hok e (fun p hp => nomatch hp) (fun _ => b)
    have hm : Mut (H D) := by
      rw [e]
      exact True.intro
    obtain ⟨_, _, _, _, ob, _, _, hob, _⟩ := id m
    have I4 : Inv X pins σ (upd H D (MxO X.prog X.w D [] fun _ => b)) s := I.write (x := D) (e := D) (h' := s.heap) (t' := s.toks) hm (.inl rfl) (fun _ _ _ q => q) ⟨_, hob⟩ (mx_new m)
    have neD : b ≠ D := by
      rintro rfl
      rcases hb with hb | ⟨_, ob, hb⟩ <;> · rw [hb] at e; cases e
    refine mx_add (a := D) (kvs := []) (bs := fun _ => b) hu I4 upd_same (fun p hp => nomatch hp) ⟨b, rfl, hb.upd neD⟩ ry rz rfl (by rw [sizeLine_eq]; decide) (fun p hp => nomatch hp) fun s5 I5 => ?_
    rw [upd_upd] at I5
    exact h _ I5
  · have neD : b ≠ D := by
      rintro rfl
      rcases hb with hb | ⟨_, ob, hb⟩ <;> · rw [hb] at e; unfold MxO at e; cases e
    have agree : ∀ p ∈ kvs, (if p.1 = .inr l then b else bs p.1) = bs p.1 := fun p hp => if_neg (hne p hp)
    have m : MxAt X.prog X.w D kvs (fun k => if k = .inr l then b else bs k) s.heap := mx_agree (show ObjOk X.prog X.w H s.heap D (.ext (MxAt X.prog X.w D kvs bs)) from I.hok D _ e).1 agree
    have hm : Mut (H D) := by
      rw [e]
      exact True.intro
    obtain ⟨_, _, _, _, ob, _, _, hob, _⟩ := id m
    have I4 : Inv X pins σ (upd H D (MxO X.prog X.w D kvs fun k => if k = .inr l then b else bs k)) s := I.write (x := D) (e := D) (h' := s.heap) (t' := s.toks) hm (.inl rfl) (fun _ _ _ q => q) ⟨_, hob⟩ (mx_new m)
    have keys : KeysAt (upd H D (MxO X.prog X.w D kvs fun k => if k = .inr l then b else bs k)) kvs (fun k => if k = .inr l then b else bs k) := by
      intro p hp ks' e'
      have q := ks p hp ks' e'
      have ne : (Sum.inr ks' : GK) ≠ .inr l := by
        rw [← e']
        exact hne p hp
      show TupA _ (if (Sum.inr ks' : GK) = .inr l then b else bs (.inr ks')) _
      rw [if_neg ne]
      refine q.upd ?_
      rintro rfl
      rcases q with q | ⟨_, ob, q⟩ <;> · rw [q] at e; unfold MxO at e; cases e
    refine mx_add (a := D) (bs := fun k => if k = .inr l then b else bs k) (v := z) hu I4 upd_same keys ⟨b, rfl, hb.upd neD⟩ ry rz (by show V.ref b = .ref (if (Sum.inr l : GK) = .inr l then b else _); rw [if_pos rfl]) hl hne fun s5 I5 => ?_
    rw [upd_upd] at I5
    exact h _ I5

/-! ### {k: v for target in iter if ..}, the keys tuples -/
def tDcM (P : Program) (w : World) (wi : TI) (g : TG) (tt : TT) (tk tv : TE) (vs : List Nat) : TE := fun σ H Q => wi σ H fun J H1 => ∀ D, H1 D = none → ∃ F : Nat → Nat → Hp → Prop, (∃ m, F 0 m (upd H1 D (.dK []))) ∧ ∀ i m H, F i m H →
  (J.stop i H ∧ Q (.ref D) H) ∨ (J.go i H ∧ ∃ G : Hp → Prop, (∀ H2, G H2 → ∃ m2, m2 < m ∧ F (i + 1) m2 H2) ∧ ∀ x H2, J.yld i H x H2 → g x (wipe σ vs) H2 fun σ3 H3 => wipe σ3 vs = wipe σ vs ∧ tt σ3 H3 fun b H4 =>
    if b = true then tk σ3 H4 fun y H5 => tv σ3 H5 fun z H6 => ∃ H7, AddM P w H6 D y z H7 ∧ G H7 else G H4)
theorem pe_dcM {X : Cx} {kx vx tg iter : Expr} {ifs : List Expr} {scope : Scope} {own : List (Str × Nat)} {pos : Pos} {wi : TI} {g : TG} {tt : TT} {tk tv : TE} (hu : X.A.units < cLine) (hc : X.calm = true) (hN : X.N.Nodup) (hi : PI X tg iter wi) (ok : BlkOk X.N X.env.scope scope own)
    (hg : ∀ (s : Shared) (H : Hp) (C : Addr) (cl : List (Str × Addr)) (fp : List Addr), PG (X.blk s H scope (compEnvC scope cl C X.env) fp) tg g) (ht : ∀ (s : Shared) (H : Hp) (C : Addr) (cl : List (Str × Addr)) (fp : List Addr), PTs (X.blk s H scope (compEnvC scope cl C X.env) fp) ifs tt)
    (hk : ∀ (s : Shared) (H : Hp) (C : Addr) (cl : List (Str × Addr)) (fp : List Addr), PE (X.blk s H scope (compEnvC scope cl C X.env) fp) kx tk)
    (he : ∀ (s : Shared) (H : Hp) (C : Addr) (cl : List (Str × Addr)) (fp : List Addr), PE (X.blk s H scope (compEnvC scope cl C X.env) fp) vx tv) (hs : ∀ x, foldedSetIterable iter X.env x = pure x := by intro _; rfl) :
    PE X (.DictComp kx vx [⟨tg, iter, ifs, 0⟩] scope pos) (tDcM X.prog X.w wi g tt tk tv (own.map (·.2))) := by
  constructor
  intro pins s σ H Q I h
  rw [arm_eval_DictComp]
  have cells : ∀ y ∈ scope.names, y.2 = .free → ∃ c, X.env.cells.lookup y.1 = some c := by
    intro y hy e
    rcases ok.free y hy e with q | q
    · exact I.ok.has _ (.inl q)
    · exact I.ok.has _ (.inr q)
  refine wpAny_comprehension_free (use := none) rfl hs (closure_ok cells) ok.kind (fun y hy e => by rw [ok.uniq y hy, e]) (thn (hi.run pins s σ H _ I h) ?_)
  intro xv s1 hx
  refine thn hx ?_
  rintro itv s2 ⟨it, fp, tn, J, H2, rfl, I2, T, st2, f2, q⟩
  refine wpAny_newObj_type (newEnv_comp ?_)
  -- the new dict, the block's frame
  obtain ⟨D, hD⟩ : ∃ D, s2.heap.objs.size = D := ⟨_, rfl⟩
  obtain ⟨F, ⟨m0, start⟩, turn⟩ := q D (I2.hok.fresh (Nat.le_of_eq hD))
  obtain ⟨s3, hs3⟩ : ∃ s3 : Shared, ({ s2 with heap := s2.heap.push { cls := .type "dict", data := .dict #[] } } : Shared) = s3 := ⟨_, rfl⟩
  have heap3 : s3.heap = s2.heap.push { cls := .type "dict", data := .dict #[] } := by rw [← hs3]
  have I3 : Inv X pins σ (upd H2 D (.dK [])) s3 := by
    subst hs3
    refine I2.laid (t' := s2.toks) (fun b o e => Heap.get?_push_of_some _ e) (Nat.le_of_eq hD) ?_
    subst hD
    exact dk_empty s2.heap I2.big
  have small : ∀ b ∈ fp, b < s2.heap.objs.size := by
    intro b hb
    obtain ⟨o, e, _⟩ := T.obj _ _ st2 b hb
    exact Heap.lt_size e
  have f3 : ∀ b ∈ fp, FpOk X pins (upd H2 D (.dK [])) b ∧ b < s3.heap.objs.size := by
    intro b hb
    have lt := small b hb
    constructor
    · refine ⟨?_, (f2 b hb).2⟩
      rw [upd_ne (by rw [← hD]; exact Nat.ne_of_lt lt)]
      exact (f2 b hb).1
    · rw [heap3, Heap.size_push]
      exact Nat.lt_succ_of_lt lt
  have st3 : tn 0 s3.heap := T.keep _ _ _ st2 fun b _ o e => by
    rw [heap3]
    exact Heap.get?_push_of_some _ e
  have I4 := block_start I3 ok hN f3
  have rg := hg s3 (upd H2 D (.dK [])) s3.heap.objs.size (cellsFrom (s3.heap.objs.size + 1) scope.names (cloFrom X.env.cells scope.names [])) fp
  have rt := ht s3 (upd H2 D (.dK [])) s3.heap.objs.size (cellsFrom (s3.heap.objs.size + 1) scope.names (cloFrom X.env.cells scope.names [])) fp
  have rk := hk s3 (upd H2 D (.dK [])) s3.heap.objs.size (cellsFrom (s3.heap.objs.size + 1) scope.names (cloFrom X.env.cells scope.names [])) fp
  have rv := he s3 (upd H2 D (.dK [])) s3.heap.objs.size (cellsFrom (s3.heap.objs.size + 1) scope.names (cloFrom X.env.cells scope.names [])) fp
  rw [hD]
  rw [hs3]
  show codeAny _ _ (.compStart (.DictComp kx vx [⟨tg, iter, ifs, 0⟩] scope pos) 0 (.ref it) (.ref D) (compEnvC scope (cellsFrom (s3.heap.objs.size + 1) scope.names (cloFrom X.env.cells scope.names [])) s3.heap.objs.size X.env)) _ { s3 with heap := pushCells (s3.heap.push { cls := .type "dict", data := .dict #[] }) scope.names }
  have clean : ∀ b ∈ fp, (upd H2 D (.dK [])) b = none := fun b hb => (f3 b hb).1.1
  obtain ⟨ce, hce⟩ : ∃ ce, compEnvC scope (cellsFrom (s3.heap.objs.size + 1) scope.names (cloFrom X.env.cells scope.names [])) s3.heap.objs.size X.env = ce := ⟨_, rfl⟩
  have frame : ce.locals = s3.heap.objs.size := by
    subst hce
    rfl
  rw [hce] at I4 rg rt rk rv ⊢
  obtain ⟨H3, hH3⟩ : ∃ H3, upd H2 D (.dK []) = H3 := ⟨_, rfl⟩
  rw [hH3] at I3 I4 rg rt rk rv start clean f3
  obtain ⟨s4, hs4⟩ : ∃ s4 : Shared, ({ s3 with heap := pushCells (s3.heap.push { cls := .type "dict", data := .dict #[] }) scope.names } : Shared) = s4 := ⟨_, rfl⟩
  rw [hs4] at I4 ⊢
  have st4 : tn 0 s4.heap := T.keep _ _ _ st3 fun b _ o e => by
    rw [← hs4]
    exact pushCells_keeps _ _ _ _ (Heap.get?_push_of_some _ e)
  have static : ∀ {σ' : L2.St} {H' : Hp} {s' : Shared}, Inv (X.blk s3 H3 scope ce fp) [] σ' H' s' → (∀ b ∈ fp, H' b = none) → ∀ b ∈ fp, FpOk (X.blk s3 H3 scope ce fp) [] H' b := by
    intro σ' H' s' I' hn b hb
    exact ⟨hn b hb, (I'.ok.exf b hb).1, I'.ok.exfs b hb, .inl hb, fun x c e => (I'.ok.exf b hb).2 x c e, fun p hp => absurd (show p ∈ ([] : List (Addr × Obj)) ++ [] from hp) (by simp)⟩
  have loop : codeAny (model X.prog X.w) X.A (.compLoop (.DictComp kx vx [⟨tg, iter, ifs, 0⟩] scope pos) 0 (.ref it) (.ref D) ce) (compPost (model X.prog X.w) X.A X.xe none (EP X pins σ Q) (.ref D) s3.heap.objs.size) s4 := by
    refine compLoop_anyD (fun n s' => ∃ i H', Inv (X.blk s3 H3 scope ce fp) [] (wipe σ (own.map (·.2))) H' s' ∧ tn i s'.heap ∧ (∀ b ∈ fp, H' b = none) ∧ F i n H') ?_ m0 ⟨0, H3, I4, st4, clean, start⟩
    rintro n s5 ⟨i, H5, I5, st5, n5, w5⟩
    rcases turn i n H5 w5 with ⟨stop, fin⟩ | ⟨go, G, hG, step⟩
    · refine thnF (T.done (X.blk s3 H3 scope ce fp) rfl rfl rfl hc i [] s5 _ H5 (fun _ _ => False) I5 (static I5 n5) st5 stop) ?_
      rintro r s6 ⟨rfl, I6⟩
      have I7 : Inv X pins σ H5 s6 := I3.call' (ch := fp) I6.os I6.base I6.hok I6.bare fun b hb => ⟨(f3 b hb).1.2.2.2.1, (f3 b hb).1.2.1, (f3 b hb).1.2.2.2.2.1, (f3 b hb).1.2.2.2.2.2⟩
      have nC : H5 s3.heap.objs.size = none := by
        have z : H5 ce.locals = none := I6.free
        rw [frame] at z
        exact z
      obtain ⟨m, hn, _⟩ := I6.loc
      have hn : s6.heap.Ns ce.locals m := hn
      rw [frame] at hn
      refine ⟨m, hn, fun h2 sb => ?_⟩
      obtain ⟨f0, f1, f2, f3, f4, f5⟩ := I3.fpOk (Nat.le_refl _) nC
      exact ⟨.ref D, H5, I7.turned (t' := s6.toks) (fun b o hb e => (sb.2 b hb).trans e) f0 f1 f3 f4 f5, rfl, fin⟩
    · refine thnF (T.item (X.blk s3 H3 scope ce fp) rfl rfl rfl hc i [] s5 _ H5 (fun _ _ => False) I5 (static I5 n5) st5 go) ?_
      rintro r s6 ⟨u, rfl, h6⟩
      refine thnF h6 ?_
      rintro _ s7 ⟨x, H7, I7, r7, y7, st7, n7⟩
      have I7' := I7.pinned (static I7 n7) (T.obj _ _ st7)
      refine thnF (rg.run _ s7 _ H7 x u _ I7' r7 (step x H7 y7)) ?_
      rintro _ s8 ⟨σ8, H8, I8, hw8, q8⟩
      have fin : ∀ {s' : Shared} {H' : Hp}, Inv (X.blk s3 H3 scope ce fp) ([] ++ pinsAt fp s7.heap) σ8 H' s' → G H' → ∃ m, m < n ∧ ∃ i H', Inv (X.blk s3 H3 scope ce fp) [] (wipe σ (own.map (·.2))) H' s' ∧ tn i s'.heap ∧ (∀ b ∈ fp, H' b = none) ∧ F i m H' := by
        intro s' H' I' g'
        obtain ⟨m2, lt, w2⟩ := hG H' g'
        have pin : ∀ b ∈ fp, ∀ o, s7.heap.get? b = some o → s'.heap.get? b = some o ∧ H' b = none := fun b hb o e =>
          let z := I'.pin (b, o) (List.mem_append_right _ (List.mem_append_right _ (mem_pinsAt hb e)))
          ⟨z.1, z.2.1⟩
        have len : (wipe σ (own.map (·.2))).length = σ8.length := by rw [← hw8, wipe_length]
        refine ⟨m2, lt, i + 1, H', (I'.unpinned (pins := [])).weak len (fun j v e => ?_), T.keep _ _ _ st7 fun b hb o e => (pin b hb o e).1, fun b hb => ?_, w2⟩
        · rw [← hw8] at e
          exact (wipe_some e).1
        · obtain ⟨o, e, _⟩ := T.obj _ _ st7 b hb
          exact (pin b hb o e).2
      refine thnF (rt.run _ s8 σ8 H8 _ I8 q8) ?_
      rintro b s9 ⟨H9, I9, q9⟩
      cases b with
      | false => exact fin I9 q9
      | true =>
        refine thnF (rk.run _ s9 σ8 H9 _ I9 q9) ?_
        rintro kv s10 ⟨yk, H10, I10, r10, q10⟩
        refine thnF (rv.run _ s10 σ8 H10 _ I10 q10) ?_
        rintro vv s11 ⟨yv, H11, I11, r11, H12, add, nx⟩
        exact addM_ok (X := X.blk s3 H3 scope ce fp) hu I11 add r10 r11 fun s12 I12 => fin I12 nx
  exact codeAny_compStart_dict loop (T.self X.A 0 _ _ _ st4 loop)
end Mx
end
section
set_option Elab.async false
set_option linter.all false
set_option maxRecDepth 100000
set_option maxHeartbeats 1000000
namespace L3
open PySem PySem.Spec PyProof.Rows L2 Mx So Gd
/-! ### what is never reached -/
def uNo : TE3 := fun _ _ _ => False
def uNoS : TS3 := fun _ _ _ => False
section
variable {X : Cx} {Z : ZZ} {e : Expr} {st : Stmt}
theorem e3_never : PE3 X Z e (fun _ _ _ => False) uNo := ⟨⟨fun _ _ _ _ _ _ h => h.elim⟩, fun _ _ _ _ _ _ _ _ _ h _ => h.elim⟩
theorem s3_never : PS3 X Z st uNoS := ⟨_, ps_never, fun _ _ _ _ _ _ _ _ _ h _ => h.elim⟩

/-! ### C.m(self, ..), C a class of the program, m a def of it -/
variable {x m : Str} {C f : Addr} {mc : Value} {k : Nat} {fd : FuncData} {ps : List Str} {sp : Sp} {CXX : CXT} {E : XK} {es : List Expr} {t : TA} {np apos pos : Pos} {pl : Sem Bool}
theorem pe_clsfn (hg : Gl X x) (hm : X.mg x = some (.ref C)) (r : ClX.CRead X.K C mc) (c : PySem.W.findCls X.K (.ref C) mc m = some (.val (.ref f))) (kp : PySem.W.keepIn X.K (.ref f) = true) (F : FnOk X.prog X.w X.K X.mg X.base CXX k f fd ps sp) (hr : Room k X.A) (hb : Binds X.K fd ps [])
    (hx : Passes CXX X E) (ha : PA X (e :: es) t) (hdb : (x == ("__debug__" : Str)) = false := by decide) (hst : starEach (e :: es) X.env = (false, eval e X.env) :: starEach es X.env := by rfl) (hpl : (backTo pos (starEach es X.env)).any (·.1) = false := by rfl)
    (ht : eval (.Call (.Attribute (.Name x np) m apos) (e :: es) [] pos) X.env = (do
      let o ← eval (.Name x np) X.env
      standAt apos.atName
      let (g, h) ← holding [o] (getMethod o m pl)
      callWith pos g h (backTo pos (starEach (e :: es) X.env)) (backToKw pos (keywordEach [] X.env))) := by rfl) :
    PE X (.Call (.Attribute (.Name x np) m apos) (e :: es) [] pos) (tCall sp [] E t) := by
  constructor
  intro pins s σ H Q I h
  refine PySem.W.methodCall_KW (pl := pl) (ld_glob I hg hm ?_ hdb) ht
  refine PySem.W.method_cls I.kIn r.ga (PySem.W.cls_value I.kIn r.rd c (L2.handed_of (show RelV (V.ref f) (Value.ref f) from rfl)) ?_)
  have I2 := I.tok (s.toks + 1)
  refine PySem.W.callWith_K (first := []) (h₀ := X.base) I2.ok.mod.kin kp (thn (ha.run pos pins _ σ H _ I2 h) ?_) hst hpl
  rintro us s2 ⟨vs, H2, I3, rv, q⟩
  exact ⟨I3.kIn, run_fn F hr hb .nil hx I3 rv q⟩
end
section
variable {X : Cx} {Z : ZZ} {e : Expr} {x m : Str} {C f : Addr} {mc : Value} {k : Nat} {fd : FuncData} {ps : List Str} {sp : Sp3} {E : XK} {es : List Expr} {tg : TA} {ug : TA3} {np apos pos : Pos} {pl : Sem Bool}
theorem e3_clsfn (tk : LT.Takes X Z.z) (ze : ZE Z E) (hg : Gl X x) (hm : X.mg x = some (.ref C)) (r : ClX.CRead X.K C mc) (c : PySem.W.findCls X.K (.ref C) mc m = some (.val (.ref f))) (kp : PySem.W.keepIn X.K (.ref f) = true) (F : FnOk X.prog X.w X.K X.mg X.base (LT.CX X.prog X.w) k f fd ps (spOf X.prog X.w sp))
    (hr : Room k X.A) (hb : Binds X.K fd ps []) (ha : PA3 X Z (e :: es) tg ug) (hdb : (x == ("__debug__" : Str)) = false := by decide) (hst : starEach (e :: es) X.env = (false, eval e X.env) :: starEach es X.env := by rfl) (hpl : (backTo pos (starEach es X.env)).any (·.1) = false := by rfl)
    (ht : eval (.Call (.Attribute (.Name x np) m apos) (e :: es) [] pos) X.env = (do
      let o ← eval (.Name x np) X.env
      standAt apos.atName
      let (g, h) ← holding [o] (getMethod o m pl)
      callWith pos g h (backTo pos (starEach (e :: es) X.env)) (backToKw pos (keywordEach [] X.env))) := by rfl) :
    PE3 X Z (.Call (.Attribute (.Name x np) m apos) (e :: es) [] pos) (tCall (spOf X.prog X.w sp) [] E tg) (uCallX sp Z.z3 ug) :=
  ⟨pe_clsfn hg hm r c kp F hr hb (pass_of tk ze) ha.pe hdb hst hpl ht, up_callE ze ha.up⟩
/-! ### *e among arguments and items -/
def uStar (u : TE3) (r : TA3) : TA3 := fun σ S Q => u σ S fun y S1 => ∃ its, ((∃ c, y = .l c ∧ S1 c = some (.lst its)) ∨ ∃ ds, y = .d (.tuple ds) ∧ its = ds.map .d) ∧ r σ S1 fun xs S2 => Q (its ++ xs) S2
theorem a3_star {p : Pos} {th : TE} {u : TE3} (h : PE3 X Z e th u) (g : PA3 X Z es tg ug) (hs : starEach (.Starred e p :: es) X.env = (true, eval e X.env) :: starEach es X.env := by rfl) : PA3 X Z (.Starred e p :: es) (StX.tStar X.K th tg) (uStar u ug) := by
  obtain ⟨p1, q1⟩ := h
  obtain ⟨p2, q2⟩ := g
  refine ⟨StX.pa_star p1 p2 hs, ?_⟩
  intro σ σi H ad S Q Q3 R sl z kk
  refine q1 σ σi H ad S _ _ R sl z ?_
  rintro v H1 ad1 S1 it R1 n1 i1 ⟨its, hi, z1⟩
  have fin : ∀ a xs, v = .ref a → (SqT X.K H1 a xs ∨ SqL X.K H1 a xs) → Paired (ItAt H1 ad1 S1) xs its → ∃ p xs, v = V.ref p ∧ (SqT X.K H1 p xs ∨ SqL X.K H1 p xs) ∧ tg σ H1 fun ys H2 => Q (xs ++ ys) H2 := by
    intro a xs e1 e2 pr
    refine ⟨a, xs, e1, e2, q2 σ σi H1 ad1 S1 _ _ R1 (sl.go n1) z1 ?_⟩
    intro ys H2 ad2 S2 its2 R2 n2 pr2 z2
    exact kk _ H2 ad2 S2 _ R2 (n1.trans n2) (Paired.app (pr_go pr n2) pr2) z2
  rcases hi with ⟨c, rfl, hc⟩ | ⟨ds, rfl, rfl⟩
  · obtain ⟨rfl, _⟩ := i1
    obtain ⟨xs, h1, h2⟩ := R1.at_ c _ hc
    exact fin _ xs rfl (.inr (SqL.of h1)) h2
  · obtain ⟨a, xs, rfl, h1, h2⟩ := Dt.tupI i1
    exact fin a xs rfl (.inl h1.sq) (dts_items h2)
end
/-! ### the program's constant ("switch",) -/
def swD : PyData := .tuple [.str "switch"]
/-- the name x holds it -/
structure SwAt (mg : Str → Option Value) (H : Hp) (x : Str) : Prop where
  at_ : ∃ a ob, mg x = some (.ref a) ∧ H a = some (.frz ob (.tup [.str "switch"]))
/-! ### {k: v for ..}, keys tuples, over the store -/
def uAddM (c : L) (y z : Im) (S : Sto) (G : Sto → Prop) : Prop := ∃ l : List Key, y = .d (.tuple (l.map kD)) ∧ ((S c = some (.dk []) ∧ G (S.put c (.mx [(.inr l, z)]))) ∨
  ∃ kvs, S c = some (.mx kvs) ∧ (∀ p ∈ kvs, p.1 ≠ .inr l) ∧ kvs.length < sizeLine ∧ G (S.put c (.mx (kvs ++ [(.inr l, z)]))))
def uDcM (wi : TI3) (tg : Tgt) (tt : TT3) (tk tv : TE3) (vs : List Nat) : TE3 := fun σ S Q => wi σ S fun W S1 => New S1 fun c => ∃ F : Nat → Sto → Prop, F 0 (S1.put c (.dk [])) ∧ (∀ i S, i ≤ W.n → F i S → W.ok S) ∧
  (∀ i it S, i < W.n → W.item i it → F i S → ∃ σ2, tg.sets it (wipe3 σ vs) = some σ2 ∧ tt σ2 S fun b S3 => if b = true then tk σ2 S3 fun y S4 => tv σ2 S4 fun z S5 => uAddM c y z S5 (F (i + 1)) else F (i + 1) S3) ∧
  ∀ S, F W.n S → Q (.l c) S
theorem add_up {P : Program} {w : World} {H : Hp} {ad : L → Addr} {S : Sto} {c : L} {y z : Im} {vy vz : V} {G : Sto → Prop} (R : Rep P w H ad S) (iy : ItAt H ad S vy y) (iz : ItAt H ad S vz z) (h : uAddM c y z S G) :
    ∃ H' S', AddM P w H (ad c) vy vz H' ∧ Rep P w H' ad S' ∧ Nx H ad S H' ad S' ∧ G S' := by
  obtain ⟨l, rfl, h⟩ := h
  obtain ⟨b, rfl, hb⟩ := Dt.keyR iy
  have at_ : ∀ {ps : List (GK × V)} {kvs : List (GK × Im)} {bs : GK → Addr} {u : HO}, H (ad c) = some u → NoTup u → S c ≠ none → Paired (KvR (ItAt H ad S)) ps kvs → KeysAt H ps bs → HasT ps →
      Rep P w (upd H (ad c) (MxO P w (ad c) ps bs)) ad (S.put c (.mx kvs)) ∧ Nx H ad S (upd H (ad c) (MxO P w (ad c) ps bs)) ad (S.put c (.mx kvs)) := by
    intro ps kvs bs u hu nt hc pr ks ht
    have n : Nx H ad S (upd H (ad c) (MxO P w (ad c) ps bs)) ad (S.put c (.mx kvs)) := ⟨Tk.at_ hu nt.1 nt.2, fun _ q => ⟨rfl, put_dom q⟩⟩
    exact ⟨(R.write hc (e := .mx kvs) ⟨ps, bs, upd_same, fun p hp ks' e => n.tk _ _ (ks p hp ks' e), ht, pr_map pr fun _ _ q => ⟨q.1, n.it q.2⟩⟩).1, n⟩
  rcases h with ⟨hc, g⟩ | ⟨kvs, hc, hne, hl, g⟩
  · obtain ⟨ps, h1, h2⟩ := R.at_ c _ hc
    cases h2
    obtain ⟨R2, n2⟩ := at_ (ps := [(.inr l, vz)]) (kvs := [(.inr l, z)]) (bs := fun _ => b) h1 ⟨(fun _ z => by cases z), fun _ _ z => by cases z⟩ (by rw [hc]; exact fun z => nomatch z) (.cons ⟨rfl, iz⟩ .nil)
      (fun p hp ks e => by
        obtain rfl := List.mem_singleton.mp hp
        injection e with e
        subst e
        exact hb) ⟨_, List.mem_singleton.mpr rfl, l, rfl⟩
    exact ⟨_, _, .inl ⟨l, b, h1, rfl, hb, rfl⟩, R2, n2, g⟩
  · obtain ⟨ps, bs, h1, hk, ht, h2⟩ := R.at_ c _ hc
    have keys : ∀ p ∈ ps, p.1 ≠ .inr l := by
      intro p hp
      obtain ⟨q, hq, r⟩ := pr_mem h2 p hp
      rw [r.1]
      exact hne q hq
    obtain ⟨R2, n2⟩ := at_ (ps := ps ++ [(.inr l, vz)]) (kvs := kvs ++ [(.inr l, z)]) (bs := fun k => if k = .inr l then b else bs k) h1 ⟨(fun _ z => by unfold MxO at z; cases z), fun _ _ z => by unfold MxO at z; cases z⟩ (by rw [hc]; exact fun z => nomatch z) (Paired.app h2 (.cons ⟨rfl, iz⟩ .nil))
      (fun p hp ks e => by
        rcases List.mem_append.mp hp with hp | hp
        · have ne : (Sum.inr ks : GK) ≠ .inr l := by
            rw [← e]
            exact keys p hp
          show TupA H (if (Sum.inr ks : GK) = .inr l then b else bs (.inr ks)) _
          rw [if_neg ne]
          exact hk p hp ks e
        · obtain rfl := List.mem_singleton.mp hp
          injection e with e
          subst e
          show TupA H (if (Sum.inr l : GK) = .inr l then b else _) _
          rw [if_pos rfl]
          exact hb)
      (by
        obtain ⟨p, hp, ks, e⟩ := ht
        exact ⟨p, List.mem_append_left _ hp, ks, e⟩)
    exact ⟨_, _, .inr ⟨ps, bs, l, b, h1, hk, rfl, hb, keys, by rw [Paired.length h2]; exact hl, rfl⟩, R2, n2, g⟩
theorem up_dcM {P : Program} {w : World} {Z : ZZ} {K : PySem.W.Frag} {wi : TI} {wi3 : TI3} {tg : Tgt} {tt : TT} {tt3 : TT3} {tk tv : TE} {tk3 tv3 : TE3} {vs : List Nat} (hi : UpI P w Z wi wi3) (ht : UpT P w Z tt tt3) (hk : Up P w Z tk tk3) (he : Up P w Z tv tv3) (hv : ∀ j ∈ tg.names, j ∈ vs) :
    Up P w Z (tDcM P w wi (tg.g K) tt tk tv vs) (uDcM wi3 tg tt3 tk3 tv3 vs) := by
  intro σ σi H ad S Q Q3 R sl z k
  refine hi σ σi H ad S _ _ R sl z ?_
  rintro J W H1 ad1 S1 R1 n1 cor z1 D hD
  obtain ⟨adc, c, R2, n2, e2, f2, F, z0, zok, zt, ze⟩ := new_at (o := .dK []) (e := .dk []) R1 z1 hD fun ad' c n => ⟨[], upd_same, .nil⟩
  have hSt : (S1.put c (.dk [])) c ≠ none := by
    rw [put_same]
    exact fun y => nomatch y
  refine ⟨fun i m H' => m = W.n - i ∧ i ≤ W.n ∧ ∃ ad' S', Rep P w H' ad' S' ∧ Nx (upd H1 D (.dK [])) adc (S1.put c (.dk [])) H' ad' S' ∧ F i S', ⟨W.n, by simp, Nat.zero_le _, adc, _, R2, Nx.refl _ _ _, z0⟩, ?_⟩
  rintro i m H' ⟨rfl, hile, ad', S', R', n', z'⟩
  have n1' := n2.trans n'
  obtain ⟨c1, c2⟩ := cor H' ad' S' R' n1' (zok i S' hile z') i
  by_cases hlt : i < W.n
  · obtain ⟨g1, g2⟩ := c1 hlt
    refine .inr ⟨g1, fun H2 => ∃ ad2 S2, Rep P w H2 ad2 S2 ∧ Nx (upd H1 D (.dK [])) adc (S1.put c (.dk [])) H2 ad2 S2 ∧ F (i + 1) S2, ?_, ?_⟩
    · intro H2 h2
      exact ⟨W.n - (i + 1), by omega, rfl, hlt, h2⟩
    · intro x H2 y2
      obtain ⟨ad2, S2, it, R2', n2', i2, w2, rfl⟩ := g2 x H2 y2
      obtain ⟨σ2, hs, ztt⟩ := zt i it S2 hlt w2 z'
      have n02 := n'.trans n2'
      have slw : Slots P w Z H2 ad2 S2 (wipe σ vs) (wipe3 σi vs) := wipe_slots ((((sl.go n1).go n2).go n02)) vs
      have body : ∀ σ3 : L2.St, Slots P w Z H2 ad2 S2 σ3 σ2 → tt σ3 H2 fun b H4 => if b = true then tk σ3 H4 fun y H5 => tv σ3 H5 fun z H6 => ∃ H7, AddM P w H6 D y z H7 ∧
          (∃ ad2 S2, Rep P w H7 ad2 S2 ∧ Nx (upd H1 D (.dK [])) adc (S1.put c (.dk [])) H7 ad2 S2 ∧ F (i + 1) S2)
          else ∃ ad2 S2, Rep P w H4 ad2 S2 ∧ Nx (upd H1 D (.dK [])) adc (S1.put c (.dk [])) H4 ad2 S2 ∧ F (i + 1) S2 := by
        intro σ3 sl3
        refine ht σ3 σ2 H2 ad2 S2 _ _ R2' sl3 ztt ?_
        intro b H3 ad3 S3 R3 n3 z3
        cases b with
        | false => exact ⟨ad3, S3, R3, n02.trans n3, z3⟩
        | true =>
          refine hk σ3 σ2 H3 ad3 S3 _ _ R3 (sl3.go n3) z3 ?_
          intro vy H4 ad4 S4 iy R4 n4 i4 z4
          refine he σ3 σ2 H4 ad4 S4 _ _ R4 ((sl3.go n3).go n4) z4 ?_
          intro vz H5 ad5 S5 iz R5 n5 i5 z5
          have n05 := ((n02.trans n3).trans n4).trans n5
          have e5 : ad5 c = D := (n05.st c hSt).1.trans e2
          obtain ⟨H6, S6, add, R6, n6, g6⟩ := add_up R5 (n5.it i4) i5 z5
          rw [e5] at add
          exact ⟨H6, add, ad5, S6, R6, n05.trans n6, g6⟩
      cases tg with
      | one j =>
        obtain rfl := Option.some.inj hs
        exact ⟨wipe_set σ vs (hv j List.mem_cons_self) _, body _ (slw.set j i2)⟩
      | many js =>
        cases it with
        | l c => cases hs
        | a p => cases hs
        | d dd =>
          cases dd with
          | tuple ds =>
            have hs' : (if ds.length = js.length then some (setAll js (ds.map .d) (wipe3 σi vs)) else none) = some σ2 := hs
            by_cases hl : ds.length = js.length
            · rw [if_pos hl] at hs'
              obtain rfl := Option.some.inj hs'
              obtain ⟨a, xs, rfl, h1, h2⟩ := Dt.tupI i2
              have el := h2.len
              refine ⟨a, xs, rfl, h1.sq, by omega, gAll_go js xs _ H2 _ (by omega) ?_⟩
              exact ⟨wipe_setAll σ vs js xs (wipe σ vs) hv (wipe_wipe σ vs), body _ (setAll_slots js (dts_items h2) slw)⟩
            · rw [if_neg hl] at hs'
              cases hs'
          | _ => cases hs
  · obtain rfl : i = W.n := by omega
    exact .inl ⟨c2 (Nat.le_refl _), k _ H' ad' S' (.l c) R' (n1.trans n1') ⟨by rw [(n'.st c hSt).1, e2], (n'.st _ hSt).2⟩ (ze S' z')⟩
section
variable {X : Cx} {Z : ZZ}
theorem e3_dcM {kx vx tg iter : Expr} {ifs : List Expr} {scope : Scope} {own : List (Str × Nat)} {pos : Pos} {ti : TI} {wi : TI3} {g : Tgt} {tt : Blk TT} {tk tv : Blk TE} {tt3 : Blk TT3} {tk3 tv3 : Blk TE3} (hu : X.A.units < cLine) (hc : X.calm = true) (hN : X.N.Nodup) (hi : PI3 X Z tg iter ti wi) (ok : BlkOk X.N X.env.scope scope own) (hv : ∀ j ∈ g.names, j ∈ own.map (·.2))
    (hg : ∀ (s : Shared) (H : Hp) (C : Addr) (cl : List (Str × Addr)) (fp : List Addr), PB3 (X.blk s H scope (compEnvC scope cl C X.env) fp) tg g)
    (ht : ∀ (s : Shared) (H : Hp) (C : Addr) (cl : List (Str × Addr)) (fp : List Addr), PTs3 (X.blk s H scope (compEnvC scope cl C X.env) fp) Z ifs (tt s H C cl fp) (tt3 s H C cl fp))
    (hk : ∀ (s : Shared) (H : Hp) (C : Addr) (cl : List (Str × Addr)) (fp : List Addr), PE3 (X.blk s H scope (compEnvC scope cl C X.env) fp) Z kx (tk s H C cl fp) (tk3 s H C cl fp))
    (he : ∀ (s : Shared) (H : Hp) (C : Addr) (cl : List (Str × Addr)) (fp : List Addr), PE3 (X.blk s H scope (compEnvC scope cl C X.env) fp) Z vx (tv s H C cl fp) (tv3 s H C cl fp))
    (h1 : tt.Fix X.s_0 := by intros _ _ _ _ _; rfl) (h2 : tt3.Fix X.s_0 := by intros _ _ _ _ _; rfl) (h3 : tk.Fix X.s_0 := by intros _ _ _ _ _; rfl) (h4 : tk3.Fix X.s_0 := by intros _ _ _ _ _; rfl) (h5 : tv.Fix X.s_0 := by intros _ _ _ _ _; rfl) (h6 : tv3.Fix X.s_0 := by intros _ _ _ _ _; rfl)
    (hs : ∀ x, foldedSetIterable iter X.env x = pure x := by intro _; rfl) : PE3 X Z (.DictComp kx vx [⟨tg, iter, ifs, 0⟩] scope pos) (tDcM X.prog X.w ti (g.g X.K) (tt.any X.s_0) (tk.any X.s_0) (tv.any X.s_0) (own.map (·.2))) (uDcM wi g (tt3.any X.s_0) (tk3.any X.s_0) (tv3.any X.s_0) (own.map (·.2))) := by
  obtain ⟨p, hi⟩ := hi
  exact ⟨pe_dcM hu hc hN p ok (fun s H C cl fp => (hg s H C cl fp).ex) (fun s H C cl fp => by rw [← h1 s H C cl fp]; exact (ht s H C cl fp).pts) (fun s H C cl fp => by rw [← h3 s H C cl fp]; exact (hk s H C cl fp).pe)
    (fun s H C cl fp => by rw [← h5 s H C cl fp]; exact (he s H C cl fp).pe) hs,
    up_dcM hi (ht X.s_0 (fun _ => none) 0 [] []).up (hk X.s_0 (fun _ => none) 0 [] []).up (he X.s_0 (fun _ => none) 0 [] []).up hv⟩
end
end L3
end
section
set_option Elab.async false
set_option linter.all false
set_option maxRecDepth 100000
set_option maxHeartbeats 1000000
namespace L3
open PySem PySem.Spec PyProof.Rows L2 Mx So Gd
/-! ### the program's constant -/
def uSw (a : Addr) : TE3 := fun _ S Q => S .swl = some (.sw a) ∧ Q (.d swD) S
section
variable {X : Cx} {Z : ZZ} {x y : Str} {e : Expr} {es : List Expr} {p q pos pos' apos : Pos} {th ta tb : TE} {u ua ub : TE3} {tg : TA} {ug : TA3}
theorem e3_sw {a : Addr} (hg : Gl X x) (hm : X.mg x = some (.ref a)) (hd : (x == ("__debug__" : Str)) = false := by decide) : PE3 X Z (.Name x pos) (tC (.ref a)) (uSw a) := by
  refine ⟨pe_glob hg hm (v := .ref a) rfl hd, ?_⟩
  rintro σ σi H ad S Q Q3 R sl ⟨h, z⟩ k
  obtain ⟨_, ht⟩ := R.at_ _ _ h
  exact k (.ref a) H ad S (.d swD) R (Nx.refl _ _ _) (.tup ht (.cons (.str _) .nil)) z

/-! ### exceptions that are held -/
def tXo (C : Addr) : TE := fun _ H Q => ∀ a t, H a = none → H t = none → a ≠ t → Q (.ref a) (upd (upd H t (.tup [])) a (XoO C a t))
theorem xo_new {P : Program} {w : World} {H : Hp} {h : Heap} {C a t : Addr} (m : XoAt C a t h) : ObjOk P w H h a (XoO C a t) := by
  obtain ⟨oe, ws, e, z1, z2, z3, z4⟩ := id m
  refine ⟨m, ⟨oe, e⟩, ?_⟩
  rintro h1 h2 ⟨o1, w1, e1, q1, q2, q3, q4⟩ k
  exact ⟨o1, w1, k _ e1, q1, q2, q3, q4⟩
theorem pe_xo {C : Addr} {bmB : List Value} {B newId initId : String} (F : ExcBaseFacts B newId initId bmB) (fx : PySem.W.excIn X.K C bmB newId = true) (gC : X.mg x = some (.ref C)) (kC : PySem.W.keepIn X.K (.ref C) = true) (hg : Gl X x)
    (hdb : (x == ("__debug__" : Str)) = false := by decide) : PE X (.Call (.Name x p) [] [] pos) (tXo C) := by
  constructor
  intro pins s σ H Q I h
  refine wpAny_Call_Name_kw (ld_glob I hg gC ?_ hdb)
  refine PySem.W.callWith_K0 I.kIn kC ?_
  show wpAny _ _ (call (.ref C) []) _ _ _
  obtain ⟨bm, N, nm, qn, bs, hdct, sn, sub, ab, col, dd, k0, k1, k2, k3, k5, mN, hC, hN, hni, T⟩ := exc_obj I.kIn fx
  refine wpAny_call_exc_subT F T hC hN hni (fun h1 e hm => ?_) (by show 0 ≤ sizeLine; omega)
  obtain ⟨t, he, ht0, ht⟩ := hm.there
  have offe := I.hok.gone hm.new
  have offt := I.hok.gone ht0
  have net : e ≠ t := by
    rintro rfl
    rw [he] at ht
    cases ht
  have keepH : ∀ b u, s.heap.get? b = some u → (PySem.W.hideAll h1 [e]).get? b = some u := by
    intro b u hb
    refine PySem.W.hideAll_get _ (hm.keeps b u hb) ?_
    intro hm2
    obtain rfl := List.mem_singleton.mp hm2
    rw [hm.new] at hb
    cases hb
  have tH : (PySem.W.hideAll h1 [e]).get? t = some { cls := .type "tuple", data := .seq ([] : List Value).toArray } := PySem.W.hideAll_get _ ht fun hm2 => net (List.mem_singleton.mp hm2).symm
  have I2 : Inv X pins σ (upd H t (.tup [])) { s with heap := PySem.W.hideAll h1 [e] } := I.laidN (t' := s.toks) keepH ht0 offt ⟨Nat.zero_le _, [], .nil, _, tH, rfl, _, rfl⟩
  have offe2 : upd H t (.tup []) e = none := by rw [upd_ne net]; exact offe
  have I3 : Inv X pins σ (upd (upd H t (.tup [])) e (XoO C e t)) { s with heap := h1 } := I2.laidN (h' := h1) (t' := s.toks) (fun b u hb => PySem.W.of_hideAll _ hb) (PySem.W.hideAll_none _ (List.mem_singleton.mpr rfl)) offe2 (xo_new ⟨_, _, he, rfl, rfl, rfl, rfl⟩)
  exact ⟨.ref e, _, I3, rfl, h e t offe offt net⟩
def uXo (C : Addr) : TE3 := fun _ S Q => New S fun c => Q (.l c) (S.put c (.xo C))
theorem e3_xo {C : Addr} {bmB : List Value} {B newId initId : String} (F : ExcBaseFacts B newId initId bmB) (fx : PySem.W.excIn X.K C bmB newId = true) (gC : X.mg x = some (.ref C)) (kC : PySem.W.keepIn X.K (.ref C) = true) (hg : Gl X x)
    (hdb : (x == ("__debug__" : Str)) = false := by decide) : PE3 X Z (.Call (.Name x p) [] [] pos) (tXo C) (uXo C) := by
  refine ⟨pe_xo F fx gC kC hg hdb, ?_⟩
  intro σ σi H ad S Q Q3 R sl z k a t ha ht ne
  obtain ⟨R1, n1⟩ := R.tmp (o := .tup []) ht
  have ha1 : upd H t (.tup []) a = none := by rw [upd_ne ne]; exact ha
  obtain ⟨ad2, c, R2, n2, e2, _, q2⟩ := new_at (o := XoO C a t) (e := .xo C) R1 z ha1 fun ad' c n => ⟨t, upd_same, by rw [upd_ne (fun e => ne e.symm)]; exact upd_same⟩
  exact k (.ref a) _ ad2 _ (.l c) R2 (n1.trans n2) ⟨by rw [e2], by rw [put_same]; exact fun z => nomatch z⟩ q2
/-- isinstance(e, c), str(e) of such one -/
def rIsXo (K : PySem.W.Frag) : List V → Hp → VK → Prop := fun xs H Q => ∃ (a t D : Addr) (c : V) (cv : Value) (b : Bool), xs = [.ref a, c] ∧ H a = some (XoO D a t) ∧ ExcC K D ∧ (∀ u, RelV c u → u = cv) ∧ PySem.W.kitOne K (.ref D) cv = some b ∧ Q (.bl b) H
theorem call_isXo : CallR X (.builtin "isinstance") (rIsXo X.K) := by
  rintro pins s σ H xs us Q I r ⟨a, t, D, c, cv, b, rfl, ha, C, hcv, e, qq⟩
  obtain ⟨u1, u2, rfl, r1, r2⟩ := vals2 r
  obtain rfl := hcv _ r2
  obtain rfl : u1 = Value.ref a := r1
  obtain ⟨⟨⟨oc, od, oda, osl⟩, ws, e0, z1, z2, z3, z4⟩, _⟩ := (show ObjOk X.prog X.w H s.heap a (.ext (XoAt D a t)) from I.hok a _ ha)
  dsimp only at z1 z2 z3
  subst z1 z2 z3
  exact PySem.W.kia_one (PySem.W.handS_kitx_exc C.hg C.hk C.hs C.hd C.ha C.hn C.ht C.hm) I.kIn ⟨e0, rfl, rfl, trivial⟩ e (fun z => nomatch z) fun tk => ⟨.bl b, H, I.kept (t' := tk) fun _ _ z => z, rfl, qq⟩
def rStrXo (K : PySem.W.Frag) : List V → Hp → VK → Prop := fun xs H Q => ∃ a t D, xs = [.ref a] ∧ H a = some (XoO D a t) ∧ H t = some (.tup []) ∧ LT.StrC K D ∧ Q (.str Str.empty) H
theorem call_strXo (hu : X.A.units + 2 < cLine) : CallR X (.type "str") (rStrXo X.K) := by
  rintro pins s σ H xs us Q I r ⟨a, t, D, rfl, ha, ht, C, qq⟩
  obtain ⟨u, rfl, ru⟩ := vals1 r
  obtain rfl : u = Value.ref a := ru
  obtain ⟨⟨oe, ws, e0, z1, z2, z3, z4⟩, _⟩ := (show ObjOk X.prog X.w H s.heap a (.ext (XoAt D a t)) from I.hok a _ ha)
  exact PySem.P.str_of_C_none (K := X.K) (C := D) (t0 := t) hu ⟨I.kIn, oe, ws, e0, z1, z3, z4⟩ (LT.tup0_at I.hok ht) C.st C.sb ⟨.str Str.empty, H, I.tok _, ⟨_, rfl⟩, qq⟩
def oIsXo (K : PySem.W.Frag) : List Im → Sto → K3 → Prop := fun xs S Q => ∃ (c : L) (D b : Addr) (k : Bool), xs = [.l c, .a b] ∧ S c = some (.xo D) ∧ ExcC K D ∧ PySem.W.kitOne K (.ref D) (.ref b) = some k ∧ Q (.d (.bool k)) S
def oStrXo (K : PySem.W.Frag) : List Im → Sto → K3 → Prop := fun xs S Q => ∃ (c : L) (D : Addr), xs = [.l c] ∧ S c = some (.xo D) ∧ LT.StrC K D ∧ Q (.d (.str Str.empty)) S
theorem up_isXo {P : Program} {w : World} {K : PySem.W.Frag} : UpL P w (rIsXo K) (oIsXo K) := by
  rintro H ad S xs ixs Q Q3 R p ⟨c, D, b, kk, rfl, hc, hD, hk, q⟩ k
  obtain ⟨v, v2, rfl, iv, iv2⟩ := pr2 p
  obtain ⟨rfl, _⟩ := iv
  obtain rfl : v2 = .ref b := iv2
  obtain ⟨t, h1, h2⟩ := R.at_ c _ hc
  exact ⟨_, t, D, _, .ref b, kk, rfl, h1, hD, fun u e => e, hk, k (.bl kk) H ad S (.d (.bool kk)) R (Nx.refl _ _ _) (Dt.bl _) q⟩
theorem up_strXo {P : Program} {w : World} {K : PySem.W.Frag} : UpL P w (rStrXo K) (oStrXo K) := by
  rintro H ad S xs ixs Q Q3 R p ⟨c, D, rfl, hc, hD, q⟩ k
  obtain ⟨v, rfl, iv⟩ := pr1 p
  obtain ⟨rfl, _⟩ := iv
  obtain ⟨t, h1, h2⟩ := R.at_ c _ hc
  exact ⟨_, t, D, rfl, h1, h2, hD, k _ H ad S (.d (.str Str.empty)) R (Nx.refl _ _ _) (Dt.str _) q⟩
/-- a global's address as an item -/
def uGa (a : Addr) : TE3 := fun _ S Q => Q (.a a) S
theorem e3_ga {a : Addr} (hg : Gl X x) (hm : X.mg x = some (.ref a)) (hd : (x == ("__debug__" : Str)) = false := by decide) : PE3 X Z (.Name x pos) (tC (.ref a)) (uGa a) :=
  ⟨pe_glob hg hm (v := .ref a) rfl hd, fun _ _ H ad S _ _ R _ z k => k (.ref a) H ad S (.a a) R (Nx.refl _ _ _) rfl z⟩
/-! ### for x in (a, b, ..): a written tuple of any items -/
def wTd (ua : TA3) : TI3 := fun σ S R => ua σ S fun its S1 => its.length ≤ sizeLine ∧ R ⟨its.length, fun i it => its[i]? = some it, fun _ => True⟩ S1
theorem i3_tupD {tgt : Expr} {j : Nat} (h : PA3 X Z es tg ug) : PI3 X Z tgt (.Tuple es j pos) (iTup X.K (tTup tg)) (wTd ug) := by
  obtain ⟨pp, hh⟩ := h
  refine ⟨pi_tup (pe_tup pp), ?_⟩
  intro σ σi H ad S R R3 rep sl z k
  refine hh σ σi H ad S _ _ rep sl z ?_
  rintro vs H1 ad1 S1 its R1 n1 p1 ⟨hl, z1⟩
  refine ⟨by rw [Paired.length p1]; exact hl, fun a ha => ?_⟩
  obtain ⟨R2, n2⟩ := R1.tmp (o := .tup vs) ha
  have h2 : TupA (upd H1 a (.tup vs)) a vs := .inl upd_same
  refine ⟨a, rfl, ⟨vs, h2.sq⟩, k _ _ _ ad1 S1 R2 (n1.trans n2) ?_ z1⟩
  intro H' ad' S' R' n' ok i
  have h3 := n'.tk _ _ h2
  have p3 := pr_go (pr_go p1 n2) n'
  have len := Paired.length p1
  refine ⟨fun hi => ?_, fun hi => ⟨vs, h3.sq, ?_⟩⟩
  · have hi' : i < its.length := hi
    obtain ⟨v, hv, iv⟩ := pr_get p3 (List.getElem?_eq_getElem hi')
    refine ⟨⟨vs, v, h3.sq, hv⟩, ?_⟩
    rintro x H'' ⟨rfl, hx⟩
    have ex : x = v := by
      have q := hx vs h3.sq
      rw [hv] at q
      exact (Option.some.inj q).symm
    subst ex
    exact ⟨ad', S', _, R', Nx.refl _ _ _, iv, List.getElem?_eq_getElem hi', rfl⟩
  · have hi' : its.length ≤ i := hi
    omega
end
/-! ### a tuple times a number, slices of a tuple -/
def oRepT : R3 := fun x y S Q => ∃ ds i, x = .d (.tuple ds) ∧ y = .d (.int i) ∧ ds ≠ [] ∧ 2 ≤ i ∧ i ≤ 1000 ∧ ds.length ≤ 1000 ∧ Q (.d (.tuple (List.replicate i.toNat ds).flatten)) S
theorem dts_rep {H : Hp} {vs : List V} {ds : List PyData} (h : Dts H vs ds) : ∀ n : Nat, Dts H (List.replicate n vs).flatten (List.replicate n ds).flatten
  | 0 => .nil
  | n + 1 => by
    rw [List.replicate_succ, List.replicate_succ, List.flatten_cons, List.flatten_cons]
    exact h.app (dts_rep h n)
theorem up_repT {P : Program} {w : World} {K : PySem.W.Frag} : Up2 P w (rRepT K) oRepT := by
  rintro H ad S x y ix iy Q Q3 R hx hy ⟨ds, i, rfl, rfl, h1, h2, h3, h4, q⟩ k
  obtain ⟨a, xs, rfl, t1, t2⟩ := Dt.tupI hx
  have e := t2.len
  refine ⟨a, i, xs, rfl, Dt.intI hy, t1.sq, ?_, h2, h3, by omega, fun p hp => ?_⟩
  · rintro rfl
    cases t2
    exact h1 rfl
  · obtain ⟨R2, n2⟩ := R.tmp (o := .tup (List.replicate i.toNat xs).flatten) hp
    exact k _ _ ad S (.d (.tuple _)) R2 n2 (Dt.tup (.inl upd_same) (Dts.mono n2.tk _ (dts_rep t2 _))) q
end L3
namespace L3
open PySem PySem.Spec PyProof.Rows L2 Mx So Gd
def uSlTo (u v : TE3) : TE3 := fun σ S Q => u σ S fun x S1 => v σ S1 fun y S2 => ∃ (ds : List PyData) (n : Nat), x = .d (.tuple ds) ∧ y = .d (.int n) ∧ n < ds.length ∧ Q (.d (.tuple (ds.take n))) S2
def uSlFr (u v : TE3) : TE3 := fun σ S Q => u σ S fun x S1 => v σ S1 fun y S2 => ∃ (ds : List PyData) (n : Nat), x = .d (.tuple ds) ∧ y = .d (.int n) ∧ 0 < n ∧ n ≤ ds.length ∧ Q (.d (.tuple (ds.drop n))) S2
theorem Dts.take {H : Hp} : ∀ {vs : List V} {ds : List PyData} (n : Nat), Dts H vs ds → Dts H (vs.take n) (ds.take n)
  | _, _, 0, _ => .nil
  | _, _, _ + 1, .nil => .nil
  | _, _, n + 1, .cons h t => .cons h (Dts.take n t)
theorem Dts.drop {H : Hp} : ∀ {vs : List V} {ds : List PyData} (n : Nat), Dts H vs ds → Dts H (vs.drop n) (ds.drop n)
  | _, _, 0, h => h
  | _, _, _ + 1, .nil => .nil
  | _, _, n + 1, .cons _ t => Dts.drop n t
section
variable {X : Cx} {Z : ZZ} {a b : Expr} {pos p2 : Pos} {ta tb : TE} {ua ub : TE3}
theorem six_some {m d n : Nat} (h : n ≤ m) : HT.sIx m d (some (n : Int)) = n := by
  rw [HT.sIx_nat]
  exact Nat.min_eq_left h
theorem e3_slTo (ha : PE3 X Z a ta ua) (hb : PE3 X Z b tb ub) : PE3 X Z (.Subscript a (.Slice none (some b) none p2) pos) (tSl (rSlT X.K) ta tNoPart (tPart tb)) (uSlTo ua ub) := by
  obtain ⟨pa, ha⟩ := ha
  obtain ⟨pb, hb⟩ := hb
  refine ⟨pe_slice sl_tup pa po_none (po_some pb), ?_⟩
  intro σ σi H ad S Q Q3 R sl z k
  refine ha σ σi H ad S _ _ R sl z ?_
  intro x H1 ad1 S1 ix R1 n1 i1 z1
  refine hb σ σi H1 ad1 S1 _ _ R1 (sl.go n1) z1 ?_
  rintro y H2 ad2 S2 iy R2 n2 i2 ⟨ds, n, rfl, rfl, hn, z2⟩
  obtain ⟨c, xs, rfl, h1, h2⟩ := Dt.tupI (n2.it i1)
  have el := h2.len
  refine ⟨(n : Int), Dt.intI i2, c, xs, rfl, h1.sq, ?_, fun p hp => ?_⟩
  · rw [six_some (by omega)]
    omega
  · have e : cutV xs none (some (n : Int)) = xs.take n := by
      unfold cutV
      rw [six_some (by omega)]
      show (xs.drop 0).take (n - 0) = _
      rfl
    rw [e]
    obtain ⟨R3, n3⟩ := R2.tmp (o := .tup (xs.take n)) hp
    exact k _ _ ad2 S2 (.d (.tuple _)) R3 ((n1.trans n2).trans n3) (Dt.tup (.inl upd_same) (Dts.mono n3.tk _ (Dts.take n h2))) z2
theorem e3_slFr (ha : PE3 X Z a ta ua) (hb : PE3 X Z b tb ub) : PE3 X Z (.Subscript a (.Slice (some b) none none p2) pos) (tSl (rSlT X.K) ta (tPart tb) tNoPart) (uSlFr ua ub) := by
  obtain ⟨pa, ha⟩ := ha
  obtain ⟨pb, hb⟩ := hb
  refine ⟨pe_slice sl_tup pa (po_some pb) po_none, ?_⟩
  intro σ σi H ad S Q Q3 R sl z k
  refine ha σ σi H ad S _ _ R sl z ?_
  intro x H1 ad1 S1 ix R1 n1 i1 z1
  refine hb σ σi H1 ad1 S1 _ _ R1 (sl.go n1) z1 ?_
  rintro y H2 ad2 S2 iy R2 n2 i2 ⟨ds, n, rfl, rfl, h0, hn, z2⟩
  obtain ⟨c, xs, rfl, h1, h2⟩ := Dt.tupI (n2.it i1)
  have el := h2.len
  refine ⟨(n : Int), Dt.intI i2, c, xs, rfl, h1.sq, ?_, fun p hp => ?_⟩
  · rw [six_some (by omega)]
    omega
  · have e : cutV xs (some (n : Int)) none = xs.drop n := by
      unfold cutV
      rw [six_some (by omega)]
      show (xs.drop n).take (xs.length - n) = _
      exact List.take_of_length_le (by rw [List.length_drop]; exact Nat.le_refl _)
    rw [e]
    obtain ⟨R3, n3⟩ := R2.tmp (o := .tup (xs.drop n)) hp
    exact k _ _ ad2 S2 (.d (.tuple _)) R3 ((n1.trans n2).trans n3) (Dt.tup (.inl upd_same) (Dts.mono n3.tk _ (Dts.drop n h2))) z2
end
/-! ### sorted of a dict without entries -/
def rSrt0 : List V → Hp → VK → Prop := fun xs H Q => ∃ d, xs = [.ref d] ∧ H d = some (.dK []) ∧ ∀ p, H p = none → Q (.ref p) (upd H p (.lst []))
theorem call_srt0 {X : Cx} (hc : X.calm = true) : CallR X (.builtin "sorted") rSrt0 := by
  rintro pins s σ H xs us Q I r ⟨d, rfl, hd, q⟩
  obtain ⟨u, rfl, ru⟩ := vals1 r
  obtain rfl : u = Value.ref d := ru
  obtain ⟨z, hs0, vs, rel, o, es, ep, ho, hx, hdt, hko, hp, hn⟩ := dk_of I.hok hd
  have hvs : vs = [] := by
    cases rel
    rfl
  subst hvs
  have hes : es.size = 0 := by
    have e : es.toList = [] := by
      generalize es.toList = l at hp
      cases hp
      rfl
    rw [← Array.length_toList, e]
    rfl
  have raw : s.heap.DictRaw d es ep := ⟨o, ho, hx, hdt⟩
  have hh := I.ok.hd hc
  refine Calls.call_function_entry kind_sorted plain_sorted entry_sorted (args_sorted1 _) ?_
  unfold Builtin.«sorted»
  refine wpAny_bind (m := checkCount "sorted" 1 1 _) (wpAny_pure ?_)
  refine wpAny_bind (PySem.W.kdu_collect (A := X.A.in1) (PySem.KdlSrc.rawDict (d := d) (es := es) (ep := ep) hs0) hh raw (by rw [hes]; exact Nat.zero_le _) fun h1 tk acc hk hacc => ?_)
  have hacc0 : acc.toList = [] := by
    have e : acc.size = 0 := hacc.1.trans hes
    exact List.length_eq_zero_iff.mp ((Array.length_toList).trans e)
  rw [hacc0]
  refine wpAny_bind (wpAny_newList ?_ (Nat.zero_le _))
  have hoL : (h1.push { cls := .type "list", data := .seq ([] : List Value).toArray }).get? h1.objs.size = some (seqObj "list" ([] : List Value).toArray 0) := Heap.get?_push_size h1 rfl
  refine wpAny_bind (wpAny_holding (wpAny_call_entry slot_list_sort ⟨_, hoL, rfl⟩ entry_list_sort (SrtO.list_sort_ord SrtO.swo_int hoL (Nat.zero_le _) (fun h2 => absurd h2 (by decide)) fun out h2 h3 => ⟨_, rfl, ?_⟩) (args_list_sort _)))
  have hout : out = [] := by
    have e := h3.perm
    exact List.Perm.eq_nil e
  subst hout
  obtain ⟨ep2, he2⟩ := sortedHeap_at (vs := ([] : List Value)) (out := ([] : List Value).toArray) hoL
  have keep : ∀ b u, s.heap.get? b = some u → (sortedHeap (h1.push { cls := .type "list", data := .seq ([] : List Value).toArray }) h1.objs.size [] ([] : List Value).toArray).get? b = some u := by
    intro b u hb
    have h4 := Heap.get?_push_of_some ({ cls := .type "list", data := .seq ([] : List Value).toArray } : Obj) (hk b u hb)
    have ne : b ≠ h1.objs.size := Nat.ne_of_lt (Heap.lt_size (hk b u hb))
    rw [sortedHeap_old ne (Heap.lt_size h4)]
    exact h4
  have gone : s.heap.get? h1.objs.size = none := by
    cases e : s.heap.get? h1.objs.size with
    | none => rfl
    | some u => exact absurd (Heap.lt_size (hk _ u e)) (Nat.lt_irrefl _)
  have free := I.hok.gone gone
  exact wpAny_pure ⟨_, rfl, .ref h1.objs.size, upd H h1.objs.size (.lst []), I.laidN (t' := tk) keep gone free ⟨Nat.zero_le _, [], ep2, .nil, he2⟩, rfl, q _ free⟩
def oSrt0 : List Im → Sto → K3 → Prop := fun xs S Q => ∃ c : L, xs = [.l c] ∧ S c = some (.dk []) ∧ New S fun c' => Q (.l c') (S.put c' (.lst []))
theorem up_srt0 {P : Program} {w : World} : UpL P w rSrt0 oSrt0 := by
  rintro H ad S xs ixs Q Q3 R p ⟨c, rfl, hc, n⟩ k
  obtain ⟨v, rfl, hv⟩ := pr1 p
  obtain ⟨rfl, _⟩ := hv
  obtain ⟨ps, h1, h2⟩ := R.at_ c _ hc
  cases h2
  exact ⟨_, rfl, h1, fun p hp => new_lst R .nil k n hp⟩
end L3
end
section
set_option Elab.async false
set_option linter.all false
set_option maxRecDepth 100000
set_option maxHeartbeats 1000000
/-! check_setup, as it landed in cefb29b: what it lets through, and what it refuses. -/
namespace St
open PySem PySem.Spec PyProof.Rows L2 Mx So L3
def top (i : Nat) : Stmt := PySem.Challenge.pw_acquit_k02_what_is_a_setup.main.body.getD i (.Pass ⟨0, 0, 0, 0⟩)
abbrev sCheck : Stmt := top 15
abbrev sNum : Stmt := top 16
abbrev sIsSet : Stmt := top 17
abbrev sIsTup : Stmt := top 18
abbrev sIss : Stmt := top 19
abbrev sHold : Stmt := top 20
abbrev sAcq : Stmt := top 21
def isNum (lo hi : Int) : PyData → Bool
  | .int i => decide (lo ≤ i) && decide (i ≤ hi)
  | _ => false
def isTup (lo hi : Int) : PyData → Bool
  | .tuple ds => decide (lo ≤ ds.length) && decide ((ds.length : Int) ≤ hi)
  | _ => false
def items : PyData → List PyData
  | .tuple ds => ds
  | _ => []
def isHold (d : PyData) : Bool := isTup 1 3 d && (items d).all (isNum 0 1000000000)
def isIss (d : PyData) : Bool := isTup 1 2 d && (items d).all isHold
def isAcq (d : PyData) : Bool := isTup 1 2 d && (items d).all (isNum 1 3)
def isFee (share fee : PyData) : Bool := match share with
  | .int s => isNum s 500 fee
  | _ => false
def isSet : PyData → Bool
  | .tuple [i, a, s, f] => isIss i && (isAcq a && (isNum 0 300 s && isFee s f))
  | _ => false
theorem k_i_bool : kitB "int" "bool" = some false := by decide +kernel
theorem k_i_int : kitB "int" "int" = some true := by decide +kernel
theorem k_i_tuple : kitB "int" "tuple" = some false := by decide +kernel
theorem k_b_bool : kitB "bool" "bool" = some true := by decide +kernel
theorem k_b_int : kitB "bool" "int" = some true := by decide +kernel
theorem k_b_tuple : kitB "bool" "tuple" = some false := by decide +kernel
theorem k_n_bool : kitB "NoneType" "bool" = some false := by decide +kernel
theorem k_n_int : kitB "NoneType" "int" = some false := by decide +kernel
theorem k_n_tuple : kitB "NoneType" "tuple" = some false := by decide +kernel
theorem k_s_bool : kitB "str" "bool" = some false := by decide +kernel
theorem k_s_int : kitB "str" "int" = some false := by decide +kernel
theorem k_s_tuple : kitB "str" "tuple" = some false := by decide +kernel
theorem k_t_bool : kitB "tuple" "bool" = some false := by decide +kernel
theorem k_t_int : kitB "tuple" "int" = some false := by decide +kernel
theorem k_t_tuple : kitB "tuple" "tuple" = some true := by decide +kernel
theorem k_l_bool : kitB "list" "bool" = some false := by decide +kernel
theorem k_l_int : kitB "list" "int" = some false := by decide +kernel
theorem k_l_tuple : kitB "list" "tuple" = some false := by decide +kernel
theorem k_d_bool : kitB "dict" "bool" = some false := by decide +kernel
theorem k_d_int : kitB "dict" "int" = some false := by decide +kernel
theorem k_d_tuple : kitB "dict" "tuple" = some false := by decide +kernel
structure Txt (mg : Str → Option Value) : Prop where
  isi : mg "isinstance" = none
  tb : mg "bool" = none
  ti : mg "int" = none
  tt : mg "tuple" = none
  len : mg "len" = none
  all : mg "all" = none
  amount : ∃ t, mg "MOST_AMOUNT" = some (.int 1000000000 t)
  houses : ∃ t, mg "MOST_HOUSES" = some (.int 2 t)
  members : ∃ t, mg "MOST_MEMBERS" = some (.int 3 t)
  share : ∃ t, mg "MOST_SHARE" = some (.int 300 t)
  fee : ∃ t, mg "MOST_FEE" = some (.int 500 t)
def spNum : Sp3 := fun its S Q _ => ∃ d lo hi, its = [.d d, .d (.int lo), .d (.int hi)] ∧ Q (.d (.bool (isNum lo hi d))) S
def spTup : Sp3 := fun its S Q _ => ∃ d lo hi, its = [.d d, .d (.int lo), .d (.int hi)] ∧ Q (.d (.bool (isTup lo hi d))) S
def spOne (g : PyData → Bool) : Sp3 := fun its S Q _ => ∃ d, its = [.d d] ∧ ∀ S', Lays S S' → Q (.d (.bool (g d))) S'
section
variable {P : Program} {w : World} {K : PySem.W.Frag} {mg : Str → Option Value} {base : Heap}
theorem ite3 {p : Bool} {A B : Prop} (a : p = true → A) (b : p = false → B) : if p = true then A else B := by
  cases p
  · exact b rfl
  · exact a rfl
theorem scNum : FnScope ["value", "least", "most"] ["value", "least", "most"] (defScope sNum) := ⟨rfl, rfl, rfl, by decide +kernel, rfl, by decide +kernel, by decide +kernel⟩
theorem ok_num {f : Addr} {fd : FuncData} (F : Fun K "is_number" "is_number" sNum f fd) (T : Txt mg) : FnOk P w K mg base (LT.CX P w) 1 f fd ["value", "least", "most"] (spOf P w spNum) := by
  refine ok3 F scNum (fun its St Q E h => ?_) (fun cdv A outer s H E E3 hr => ?_)
  · obtain ⟨d, lo, hi, rfl, _⟩ := h
    rfl
  refine ⟨_, ss_cons (s3_if (PW3.pt (w3_or (t3_val (e3_isi "bool" rfl T.isi (by decide +kernel) (v3 0) rfl T.tb (by decide +kernel))) (w3_or1 (t3_not (t3_val (e3_isi "int" rfl T.isi (by decide +kernel) (v3 0) rfl T.ti (by decide +kernel))))))) (ss_one (s3_ret e3_bl)) ss_nil)
    (ss_one (s3_ret (e3_chain op_le op_le (up_I0 fun _ _ _ => .bl _) (up_I0 fun _ _ _ => .bl _) (v3 1) (v3 0) (v3 2)))), ?_⟩
  rintro its St Q ⟨d, lo, hi, rfl, q⟩
  cases d with
  | int i =>
    refine ⟨_, rfl, .int i, false, rfl, k_i_bool, false, rfl, _, rfl, .int i, true, rfl, k_i_int, true, rfl, ?_⟩
    refine ⟨_, rfl, _, rfl, lo, i, rfl, rfl, _, rfl, ite3 (fun h => ?_) (fun h => ?_)⟩
    · refine ⟨_, rfl, i, hi, rfl, rfl, ?_⟩
      have e : isNum lo hi (.int i) = decide (i ≤ hi) := by
        show (decide (lo ≤ i) && decide (i ≤ hi)) = _
        rw [h]
        rfl
      rw [e] at q
      exact q
    · have e : isNum lo hi (.int i) = false := by
        show (decide (lo ≤ i) && decide (i ≤ hi)) = _
        rw [h]
        rfl
      rw [e] at q
      exact q
  | bool b => exact ⟨_, rfl, .bool b, true, rfl, k_b_bool, true, rfl, q⟩
  | none => exact ⟨_, rfl, .none, false, rfl, k_n_bool, false, rfl, _, rfl, .none, false, rfl, k_n_int, false, rfl, q⟩
  | str x => exact ⟨_, rfl, .str x, false, rfl, k_s_bool, false, rfl, _, rfl, .str x, false, rfl, k_s_int, false, rfl, q⟩
  | tuple ds => exact ⟨_, rfl, .tuple ds, false, rfl, k_t_bool, false, rfl, _, rfl, .tuple ds, false, rfl, k_t_int, false, rfl, q⟩
  | list ds => exact ⟨_, rfl, .list ds, false, rfl, k_l_bool, false, rfl, _, rfl, .list ds, false, rfl, k_l_int, false, rfl, q⟩
  | dict ds => exact ⟨_, rfl, .dict ds, false, rfl, k_d_bool, false, rfl, _, rfl, .dict ds, false, rfl, k_d_int, false, rfl, q⟩
/-- [f(x) for x in a tuple], f a test -/
theorem lc_tup {te : TE3} {g : PyData → Bool} {σ : St3} {S : Sto} {Q : K3} {ds : List PyData} {i j : Nat} {vs : List Nat} (hi : σ[i]? = some (some (.d (.tuple ds)))) (hl : ds.length < sizeLine)
    (h : ∀ d ∈ ds, ∀ (S' : Sto) (Q' : K3), (∀ S4, Lays S' S4 → Q' (.d (.bool (g d))) S4) → te ((wipe3 σ vs).set j (some (.d d))) S' Q')
    (k : ∀ (S' : Sto) (c : L), Lays S S' → S' c = some (.lst ((ds.map g).map fun b => .d (.bool b))) → Q (.l c) S') : uLc (wT (uVar i)) (.one j) uYes te vs σ S Q := by
  refine ⟨_, hi, ds, rfl, .inl fun p hp => ⟨fun n S' => S' (.t p) = some (.lst (((ds.take n).map g).map fun b => .d (.bool b))) ∧ Lays S S', ⟨put_same, (Lays.refl S).new (.inl hp)⟩, fun _ _ _ _ => trivial, ?_, ?_⟩⟩
  · rintro n it S' hn ⟨d, hd, rfl⟩ ⟨h1, h2⟩
    refine ⟨_, rfl, ?_⟩
    have hn' : n < ds.length := hn
    refine yes3 ?_
    refine h d (List.mem_of_getElem? hd) S' _ fun S4 h4 => ?_
    have e4 : S4 (.t p) = some (.lst (((ds.take n).map g).map fun b => .d (.bool b))) := by
      rw [h4.ex _ (by rw [h1]; exact fun z => nomatch z)]
      exact h1
    refine ⟨_, e4, ?_, ?_, ?_⟩
    · rw [List.length_map, List.length_map, List.length_take]
      omega
    · rw [put_same, List.take_add_one, hd, List.map_append, List.map_append]
      rfl
    · exact (h2.trans h4).new (.inr hp)
  · rintro S' ⟨h1, h2⟩
    have h1' : S' (.t p) = some (.lst (((ds.take ds.length).map g).map fun b => .d (.bool b))) := h1
    rw [List.take_length] at h1'
    exact k S' _ h2 h1'
theorem all_map {α : Type} (g : α → Bool) (ds : List α) : (ds.map g).all id = ds.all g := by
  rw [List.all_map]
  rfl
theorem scTup : FnScope ["value", "least", "most"] ["value", "least", "most"] (defScope sIsTup) := ⟨rfl, rfl, rfl, by decide +kernel, rfl, by decide +kernel, by decide +kernel⟩
theorem ok_tup {f : Addr} {fd : FuncData} (F : Fun K "_is_tuple" "_is_tuple" sIsTup f fd) (T : Txt mg) : FnOk P w K mg base (LT.CX P w) 1 f fd ["value", "least", "most"] (spOf P w spTup) := by
  refine ok3 F scTup (fun its St Q E h => ?_) (fun cdv A outer s H E E3 hr => ?_)
  · obtain ⟨d, lo, hi, rfl, _⟩ := h
    rfl
  refine ⟨_, ss_one (s3_ret (e3_and (e3_isi "tuple" rfl T.isi (by decide +kernel) (v3 0) rfl T.tt (by decide +kernel))
    (e3_one (e3_chain op_le op_le (up_I0 fun _ _ _ => .bl _) (up_I0 fun _ _ _ => .bl _) (v3 1) (e3_len rfl T.len PySem.boot_len (a3_cons (v3 0) a3_nil)) (v3 2))))), ?_⟩
  rintro its St Q ⟨d, lo, hi, rfl, q⟩
  have no : ∀ b, kitB (tyN d) "tuple" = some false → isTup lo hi d = false → b = false → uIsi "tuple" (uVar 0) (start3 ["value", "least", "most"] [.d d, .d (.int lo), .d (.int hi)]) St (fun x S1 => ∃ c, x = .d (.bool c) ∧ if c = true then b = true else Q (.d (.bool false)) S1) := by
    intro b h1 h2 _
    rw [h2] at q
    exact ⟨_, rfl, d, false, rfl, h1, false, rfl, q⟩
  cases d with
  | tuple ds =>
    refine ⟨_, rfl, .tuple ds, true, rfl, k_t_tuple, true, rfl, ?_⟩
    refine ⟨_, rfl, _, rfl, .d (.tuple ds), ds.length, rfl, .inr ⟨ds, rfl, rfl⟩, lo, ds.length, rfl, rfl, _, rfl, ite3 (fun h => ?_) (fun h => ?_)⟩
    · refine ⟨_, rfl, ds.length, hi, rfl, rfl, ?_⟩
      have e : isTup lo hi (.tuple ds) = decide ((ds.length : Int) ≤ hi) := by
        show (decide (lo ≤ ds.length) && decide ((ds.length : Int) ≤ hi)) = _
        rw [h]
        rfl
      rw [e] at q
      exact q
    · have e : isTup lo hi (.tuple ds) = false := by
        show (decide (lo ≤ ds.length) && decide ((ds.length : Int) ≤ hi)) = _
        rw [h]
        rfl
      rw [e] at q
      exact q
  | bool b => exact ⟨_, rfl, .bool b, false, rfl, k_b_tuple, false, rfl, q⟩
  | int b => exact ⟨_, rfl, .int b, false, rfl, k_i_tuple, false, rfl, q⟩
  | none => exact ⟨_, rfl, .none, false, rfl, k_n_tuple, false, rfl, q⟩
  | str x => exact ⟨_, rfl, .str x, false, rfl, k_s_tuple, false, rfl, q⟩
  | list ds => exact ⟨_, rfl, .list ds, false, rfl, k_l_tuple, false, rfl, q⟩
  | dict ds => exact ⟨_, rfl, .dict ds, false, rfl, k_d_tuple, false, rfl, q⟩
theorem tup_items {lo hi : Int} {d : PyData} (h : isTup lo hi d = true) (hh : hi ≤ 3) : ∃ ds, d = .tuple ds ∧ ds.length < sizeLine := by
  cases d with
  | tuple ds =>
    refine ⟨ds, rfl, ?_⟩
    have h' : (decide (lo ≤ ds.length) && decide ((ds.length : Int) ≤ hi)) = true := h
    rw [Bool.and_eq_true, decide_eq_true_iff, decide_eq_true_iff] at h'
    rw [sizeLine_eq]
    omega
  | _ => cases h
theorem scHold : FnScope ["holders", "amount"] ["holders"] (defScope sHold) := ⟨rfl, rfl, rfl, by decide +kernel, rfl, by decide +kernel, by decide +kernel⟩
theorem ok_hold {f fT fN : Addr} {fd fdT fdN : FuncData} (F : Fun K "_are_holders" "_are_holders" sHold f fd) (T : Txt mg)
    (GT : FnOk P w K mg base (LT.CX P w) 1 fT fdT ["value", "least", "most"] (spOf P w spTup)) (bT : Binds K fdT ["value", "least", "most"] []) (mT : mg "_is_tuple" = some (.ref fT)) (kT : PySem.W.keepIn K (.ref fT) = true)
    (GN : FnOk P w K mg base (LT.CX P w) 1 fN fdN ["value", "least", "most"] (spOf P w spNum)) (bN : Binds K fdN ["value", "least", "most"] []) (mN : mg "is_number" = some (.ref fN)) (kN : PySem.W.keepIn K (.ref fN) = true) :
    FnOk P w K mg base (LT.CX P w) 2 f fd ["holders"] (spOf P w (spOne isHold)) := by
  refine ok3 F scHold (fun its St Q E h => ?_) (fun cdv A outer s H E E3 hr => ?_)
  · obtain ⟨d, rfl, _⟩ := h
    rfl
  refine ⟨_, ss_one (s3_ret (e3_and (e3_call GT hr rfl mT kT bT (a3_cons (v3 0) (a3_cons e3_int (a3_cons (e3_gint rfl T.members) a3_nil))))
    (e3_one (e3_all rfl rfl T.all (by decide +kernel) (a3_cons (e3_lc (own := [("amount", 1)]) (g := .one 1) rfl scHold.nd (i3_tup (v3 0)) (blkOk_by (N := ["holders", "amount"]) (sc := defScope sHold) (by decide +kernel)) (fun j hj => hj)
      (fun _ _ _ _ _ => b3_one (i := 1) scHold.nd rfl (Or.inl rfl)) (fun _ _ _ _ _ => ts3_nil)
      (fun _ _ _ _ _ => by exact e3_call GN hr (by rfl) mN kN bN (a3_cons (v3 1) (a3_cons e3_int (a3_cons (e3_gint (by rfl) T.amount) a3_nil))))) a3_nil))))), ?_⟩
  rintro its St Q ⟨d, rfl, q⟩
  refine ⟨_, rfl, d, 1, 3, rfl, _, rfl, ite3 (fun h => ?_) (fun h => ?_)⟩
  · obtain ⟨ds, rfl, hl⟩ := tup_items h (by decide)
    dsimp only [uCB, uCons, Blk.any]
    refine lc_tup (g := isNum 0 1000000000) rfl hl (fun x hx S' Q' kq => ⟨_, rfl, x, 0, 1000000000, rfl, kq S' (Lays.refl S')⟩) fun S' c l hc => ⟨c, _, rfl, hc, ?_⟩
    rw [all_map]
    have e : isHold (.tuple ds) = ds.all (isNum 0 1000000000) := by
      show (isTup 1 3 (.tuple ds) && ds.all (isNum 0 1000000000)) = _
      rw [h]
      rfl
    rw [e] at q
    exact q S' l
  · have e : isHold d = false := by
      unfold isHold
      rw [h]
      rfl
    rw [e] at q
    exact q St (Lays.refl St)
theorem scAcq : FnScope ["acquirers", "many"] ["acquirers"] (defScope sAcq) := ⟨rfl, rfl, rfl, by decide +kernel, rfl, by decide +kernel, by decide +kernel⟩
theorem ok_acq {f fT fN : Addr} {fd fdT fdN : FuncData} (F : Fun K "_are_acquirers" "_are_acquirers" sAcq f fd) (T : Txt mg)
    (GT : FnOk P w K mg base (LT.CX P w) 1 fT fdT ["value", "least", "most"] (spOf P w spTup)) (bT : Binds K fdT ["value", "least", "most"] []) (mT : mg "_is_tuple" = some (.ref fT)) (kT : PySem.W.keepIn K (.ref fT) = true)
    (GN : FnOk P w K mg base (LT.CX P w) 1 fN fdN ["value", "least", "most"] (spOf P w spNum)) (bN : Binds K fdN ["value", "least", "most"] []) (mN : mg "is_number" = some (.ref fN)) (kN : PySem.W.keepIn K (.ref fN) = true) :
    FnOk P w K mg base (LT.CX P w) 2 f fd ["acquirers"] (spOf P w (spOne isAcq)) := by
  refine ok3 F scAcq (fun its St Q E h => ?_) (fun cdv A outer s H E E3 hr => ?_)
  · obtain ⟨d, rfl, _⟩ := h
    rfl
  have hr1 : Room 1 _ := hr.mono (by decide)
  refine ⟨_, ss_one (s3_ret (e3_and (e3_call GT hr1 rfl mT kT bT (a3_cons (v3 0) (a3_cons e3_int (a3_cons (e3_gint rfl T.houses) a3_nil))))
    (e3_one (e3_all rfl rfl T.all (by decide +kernel) (a3_cons (e3_lc (own := [("many", 1)]) (g := .one 1) rfl scAcq.nd (i3_tup (v3 0)) (blkOk_by (N := ["acquirers", "many"]) (sc := defScope sAcq) (by decide +kernel)) (fun j hj => hj)
      (fun _ _ _ _ _ => b3_one (i := 1) scAcq.nd rfl (Or.inl rfl)) (fun _ _ _ _ _ => ts3_nil)
      (fun _ _ _ _ _ => by exact e3_call GN hr1 (by rfl) mN kN bN (a3_cons (v3 1) (a3_cons e3_int (a3_cons (e3_gint (by rfl) T.members) a3_nil))))) a3_nil))))), ?_⟩
  rintro its St Q ⟨d, rfl, q⟩
  refine ⟨_, rfl, d, 1, 2, rfl, _, rfl, ite3 (fun h => ?_) (fun h => ?_)⟩
  · obtain ⟨ds, rfl, hl⟩ := tup_items h (by decide)
    dsimp only [uCB, uCons, Blk.any]
    refine lc_tup (g := isNum 1 3) rfl hl (fun x hx S' Q' kq => ⟨_, rfl, x, 1, 3, rfl, kq S' (Lays.refl S')⟩) fun S' c l hc => ⟨c, _, rfl, hc, ?_⟩
    rw [all_map]
    have e : isAcq (.tuple ds) = ds.all (isNum 1 3) := by
      show (isTup 1 2 (.tuple ds) && ds.all (isNum 1 3)) = _
      rw [h]
      rfl
    rw [e] at q
    exact q S' l
  · have e : isAcq d = false := by
      unfold isAcq
      rw [h]
      rfl
    rw [e] at q
    exact q St (Lays.refl St)
theorem scIss : FnScope ["issuers", "holders"] ["issuers"] (defScope sIss) := ⟨rfl, rfl, rfl, by decide +kernel, rfl, by decide +kernel, by decide +kernel⟩
theorem ok_iss {f fT fN : Addr} {fd fdT fdN : FuncData} (F : Fun K "_are_issuers" "_are_issuers" sIss f fd) (T : Txt mg)
    (GT : FnOk P w K mg base (LT.CX P w) 1 fT fdT ["value", "least", "most"] (spOf P w spTup)) (bT : Binds K fdT ["value", "least", "most"] []) (mT : mg "_is_tuple" = some (.ref fT)) (kT : PySem.W.keepIn K (.ref fT) = true)
    (GN : FnOk P w K mg base (LT.CX P w) 2 fN fdN ["holders"] (spOf P w (spOne isHold))) (bN : Binds K fdN ["holders"] []) (mN : mg "_are_holders" = some (.ref fN)) (kN : PySem.W.keepIn K (.ref fN) = true) :
    FnOk P w K mg base (LT.CX P w) 3 f fd ["issuers"] (spOf P w (spOne isIss)) := by
  refine ok3 F scIss (fun its St Q E h => ?_) (fun cdv A outer s H E E3 hr => ?_)
  · obtain ⟨d, rfl, _⟩ := h
    rfl
  have hr1 : Room 1 _ := hr.mono (by decide)
  refine ⟨_, ss_one (s3_ret (e3_and (e3_call GT hr1 rfl mT kT bT (a3_cons (v3 0) (a3_cons e3_int (a3_cons (e3_gint rfl T.houses) a3_nil))))
    (e3_one (e3_all rfl rfl T.all (by decide +kernel) (a3_cons (e3_lc (own := [("holders", 1)]) (g := .one 1) rfl scIss.nd (i3_tup (v3 0)) (blkOk_by (N := ["issuers", "holders"]) (sc := defScope sIss) (by decide +kernel)) (fun j hj => hj)
      (fun _ _ _ _ _ => b3_one (i := 1) scIss.nd rfl (Or.inl rfl)) (fun _ _ _ _ _ => ts3_nil)
      (fun _ _ _ _ _ => by exact e3_call GN hr (by rfl) mN kN bN (a3_cons (v3 1) a3_nil))) a3_nil))))), ?_⟩
  rintro its St Q ⟨d, rfl, q⟩
  refine ⟨_, rfl, d, 1, 2, rfl, _, rfl, ite3 (fun h => ?_) (fun h => ?_)⟩
  · obtain ⟨ds, rfl, hl⟩ := tup_items h (by decide)
    dsimp only [uCB, uCons, Blk.any]
    refine lc_tup (g := isHold) rfl hl (fun x hx S' Q' kq => ⟨_, rfl, x, rfl, fun S4 l => kq S4 l⟩) fun S' c l hc => ⟨c, _, rfl, hc, ?_⟩
    rw [all_map]
    have e : isIss (.tuple ds) = ds.all (isHold) := by
      show (isTup 1 2 (.tuple ds) && ds.all (isHold)) = _
      rw [h]
      rfl
    rw [e] at q
    exact q S' l
  · have e : isIss d = false := by
      unfold isIss
      rw [h]
      rfl
    rw [e] at q
    exact q St (Lays.refl St)
theorem scIsSet : FnScope ["setup", "issuers", "acquirers", "share", "fee"] ["setup"] (defScope sIsSet) := ⟨rfl, rfl, rfl, by decide +kernel, rfl, by decide +kernel, by decide +kernel⟩
theorem four {d : PyData} (h : isTup 4 4 d = true) : ∃ i a s f, d = .tuple [i, a, s, f] := by
  cases d with
  | tuple ds =>
    have h' : (decide ((4 : Int) ≤ ds.length) && decide ((ds.length : Int) ≤ 4)) = true := h
    rw [Bool.and_eq_true, decide_eq_true_iff, decide_eq_true_iff] at h'
    match ds, h' with
    | [i, a, s, f], _ => exact ⟨i, a, s, f, rfl⟩
    | [], h => simp at h
    | [_], h => simp at h
    | [_, _], h => simp at h
    | [_, _, _], h => simp at h
    | _ :: _ :: _ :: _ :: _ :: _, h =>
      simp only [List.length_cons] at h
      omega
  | _ => cases h
theorem not_four {d : PyData} (h : isTup 4 4 d = false) : isSet d = false := by
  cases d with
  | tuple ds =>
    match ds, h with
    | [i, a, s, f], h => cases h
    | [], _ => rfl
    | [_], _ => rfl
    | [_, _], _ => rfl
    | [_, _, _], _ => rfl
    | _ :: _ :: _ :: _ :: _ :: _, _ => rfl
  | _ => rfl
theorem num_int {lo hi : Int} {d : PyData} (h : isNum lo hi d = true) : ∃ i, d = .int i := by
  cases d with
  | int i => exact ⟨i, rfl⟩
  | _ => cases h
theorem ok_isset {f fT fN fI fA : Addr} {fd fdT fdN fdI fdA : FuncData} (F : Fun K "_is_setup" "_is_setup" sIsSet f fd) (T : Txt mg)
    (GT : FnOk P w K mg base (LT.CX P w) 1 fT fdT ["value", "least", "most"] (spOf P w spTup)) (bT : Binds K fdT ["value", "least", "most"] []) (mT : mg "_is_tuple" = some (.ref fT)) (kT : PySem.W.keepIn K (.ref fT) = true)
    (GN : FnOk P w K mg base (LT.CX P w) 1 fN fdN ["value", "least", "most"] (spOf P w spNum)) (bN : Binds K fdN ["value", "least", "most"] []) (mN : mg "is_number" = some (.ref fN)) (kN : PySem.W.keepIn K (.ref fN) = true)
    (GI : FnOk P w K mg base (LT.CX P w) 3 fI fdI ["issuers"] (spOf P w (spOne isIss))) (bI : Binds K fdI ["issuers"] []) (mI : mg "_are_issuers" = some (.ref fI)) (kI : PySem.W.keepIn K (.ref fI) = true)
    (GA : FnOk P w K mg base (LT.CX P w) 2 fA fdA ["acquirers"] (spOf P w (spOne isAcq))) (bA : Binds K fdA ["acquirers"] []) (mA : mg "_are_acquirers" = some (.ref fA)) (kA : PySem.W.keepIn K (.ref fA) = true) :
    FnOk P w K mg base (LT.CX P w) 4 f fd ["setup"] (spOf P w (spOne isSet)) := by
  refine ok3 F scIsSet (fun its St Q E h => ?_) (fun cdv A outer s H E E3 hr => ?_)
  · obtain ⟨d, rfl, _⟩ := h
    rfl
  have hr1 : Room 1 _ := hr.mono (by decide)
  have hr2 : Room 2 _ := hr.mono (by decide)
  refine ⟨_, ss_cons (s3_if (t3_not (t3_val (e3_call GT hr1 rfl mT kT bT (a3_cons (v3 0) (a3_cons e3_int (a3_cons e3_int a3_nil)))))) (ss_one (s3_ret e3_bl)) ss_nil)
    (ss_cons (s3_asg (v3 0) (g3_tup (js := [1, 2, 3, 4]) rfl (gs3_cons scIsSet.nd rfl (Or.inl rfl) (gs3_cons scIsSet.nd rfl (Or.inl rfl) (gs3_cons scIsSet.nd rfl (Or.inl rfl) (gs3_cons scIsSet.nd rfl (Or.inl rfl) gs3_nil))))))
    (ss_one (s3_ret (e3_and (e3_call GI hr rfl mI kI bI (a3_cons (v3 1) a3_nil)) (e3_and (e3_call GA hr2 rfl mA kA bA (a3_cons (v3 2) a3_nil))
      (e3_and (e3_call GN hr1 rfl mN kN bN (a3_cons (v3 3) (a3_cons e3_int (a3_cons (e3_gint rfl T.share) a3_nil))))
        (e3_one (e3_call GN hr1 rfl mN kN bN (a3_cons (v3 4) (a3_cons (v3 3) (a3_cons (e3_gint rfl T.fee) a3_nil)))))))))) ), ?_⟩
  rintro its St Q ⟨d, rfl, q⟩
  refine ⟨_, rfl, d, 4, 4, rfl, _, rfl, ite3 (fun h => ?_) (fun h => ?_)⟩
  · have e : isTup 4 4 d = false := by
      cases x : isTup 4 4 d with
      | true =>
        rw [x] at h
        cases h
      | false => rfl
    have e2 := not_four e
    rw [e2] at q
    exact q St (Lays.refl St)
  · have e : isTup 4 4 d = true := by
      cases x : isTup 4 4 d with
      | false =>
        rw [x] at h
        cases h
      | true => rfl
    obtain ⟨i, a, s, f, rfl⟩ := four e
    refine ⟨_, rfl, _, rfl, rfl, ?_⟩
    refine ⟨_, rfl, i, rfl, fun S1 l1 => ⟨_, rfl, ite3 (fun h1 => ?_) (fun h1 => ?_)⟩⟩
    · refine ⟨_, rfl, a, rfl, fun S2 l2 => ⟨_, rfl, ite3 (fun h2 => ?_) (fun h2 => ?_)⟩⟩
      · refine ⟨_, rfl, s, 0, 300, rfl, _, rfl, ite3 (fun h3 => ?_) (fun h3 => ?_)⟩
        · obtain ⟨si, rfl⟩ := num_int h3
          refine ⟨_, rfl, _, rfl, f, si, 500, rfl, ?_⟩
          have e4 : isSet (.tuple [i, a, .int si, f]) = isNum si 500 f := by
            show (isIss i && (isAcq a && (isNum 0 300 (.int si) && isNum si 500 f))) = _
            rw [h1, h2, h3]
            rfl
          rw [e4] at q
          exact q S2 (l1.trans l2)
        · have e4 : isSet (.tuple [i, a, s, f]) = false := by
            show (isIss i && (isAcq a && (isNum 0 300 s && isFee s f))) = _
            rw [h1, h2, h3]
            rfl
          rw [e4] at q
          exact q S2 (l1.trans l2)
      · have e4 : isSet (.tuple [i, a, s, f]) = false := by
          show (isIss i && (isAcq a && (isNum 0 300 s && isFee s f))) = _
          rw [h1, h2]
          rfl
        rw [e4] at q
        exact q S2 (l1.trans l2)
    · have e4 : isSet (.tuple [i, a, s, f]) = false := by
        show (isIss i && (isAcq a && (isNum 0 300 s && isFee s f))) = _
        rw [h1]
        rfl
      rw [e4] at q
      exact q S1 l1
/-- it lets a setup through, and refuses all else -/
def spCheck (c : Addr) : Sp3 := fun its S Q E => ∃ d, its = [.d d] ∧ ∀ S', Lays S S' → (isSet d = true → Q (.d .none) S') ∧ (isSet d = false → E (.ref c) S')
theorem scCheck : FnScope ["setup"] ["setup"] (defScope sCheck) := ⟨rfl, rfl, rfl, by decide +kernel, rfl, by decide +kernel, by decide +kernel⟩
theorem ok_check {f fS c : Addr} {fd fdS : FuncData} {bmB : List Value} {B newId initId : String} (F : Fun K "check_setup" "check_setup" sCheck f fd)
    (GS : FnOk P w K mg base (LT.CX P w) 4 fS fdS ["setup"] (spOf P w (spOne isSet))) (bS : Binds K fdS ["setup"] []) (mS : mg "_is_setup" = some (.ref fS)) (kS : PySem.W.keepIn K (.ref fS) = true)
    (FB : ExcBaseFacts B newId initId bmB) (qB : PySem.W.excIn K c bmB newId = true) (mB : mg "BadSetup" = some (.ref c)) (kB : PySem.W.keepIn K (.ref c) = true) (b1 : PySem.W.subIn K (.ref c) (.type "BaseException") = some true) (b2 : PySem.W.typeIn K (.ref c) = some (.type "type")) :
    FnOk P w K mg base (LT.CX P w) 5 f fd ["setup"] (spOf P w (spCheck c)) := by
  refine ok3 F scCheck (fun its St Q E h => ?_) (fun cdv A outer s H E E3 hr => ?_)
  · obtain ⟨d, rfl, _⟩ := h
    rfl
  refine ⟨_, ss_one (s3_if (t3_not (t3_val (e3_call GS hr rfl mS kS bS (a3_cons (v3 0) a3_nil)))) (ss_one (s3_raise rfl (LT.takes_of rfl rfl rfl rfl) (LT.pmk0 FB qB mB kB (raises_own b1 b2) rfl))) ss_nil), ?_⟩
  rintro its St Q ⟨d, rfl, q⟩
  refine ⟨_, rfl, d, rfl, fun S' l => ⟨_, rfl, ite3 (fun h => ?_) (fun h => ?_)⟩⟩
  · refine (q S' l).2 ?_
    cases x : isSet d with
    | true =>
      rw [x] at h
      cases h
    | false => rfl
  · refine (q S' l).1 ?_
    cases x : isSet d with
    | false =>
      rw [x] at h
      cases h
    | true => rfl
end
end St
end
section
set_option Elab.async false
set_option linter.all false
set_option maxRecDepth 100000
set_option maxHeartbeats 1000000
namespace L3
open PySem PySem.Spec PyProof.Rows L2 Mx So Gd
section
variable {X : Cx} {Z : ZZ}
/-- y = [..] -/
theorem s3_setLc {i : Nat} {y : Str} {py : Pos} {elt tg iter : Expr} {ifs : List Expr} {scope : Scope} {own : List (Str × Nat)} {pos spos : Pos} {ti : TI} {wi : TI3} {g : Tgt} {tt : Blk TT} {te : Blk TE} {tt3 : Blk TT3} {te3 : Blk TE3} (hc : X.calm = true) (hN : X.N.Nodup) (hy : X.N[i]? = some y) (hyl : X.env.scope.names.lookup y = some .local)
    (hsw : swapsWith (.ListComp elt [⟨tg, iter, ifs, 0⟩] scope pos) (some (.Name y py)) spos.line X.env = pure true) (hi : PI3 X Z tg iter ti wi) (ok : BlkOk X.N X.env.scope scope own) (hv : ∀ j ∈ g.names, j ∈ own.map (·.2))
    (hg : ∀ (s : Shared) (H : Hp) (C : Addr) (cl : List (Str × Addr)) (fp : List Addr), PB3 (X.blk s H scope (compEnvC scope cl C X.env) fp) tg g)
    (ht : ∀ (s : Shared) (H : Hp) (C : Addr) (cl : List (Str × Addr)) (fp : List Addr), PTs3 (X.blk s H scope (compEnvC scope cl C X.env) fp) Z ifs (tt s H C cl fp) (tt3 s H C cl fp))
    (he : ∀ (s : Shared) (H : Hp) (C : Addr) (cl : List (Str × Addr)) (fp : List Addr), PE3 (X.blk s H scope (compEnvC scope cl C X.env) fp) Z elt (te s H C cl fp) (te3 s H C cl fp))
    (h1 : tt.Fix X.s_0 := by intros _ _ _ _ _; rfl) (h2 : tt3.Fix X.s_0 := by intros _ _ _ _ _; rfl) (h3 : te.Fix X.s_0 := by intros _ _ _ _ _; rfl) (h4 : te3.Fix X.s_0 := by intros _ _ _ _ _; rfl)
    (hs : ∀ x, foldedSetIterable iter X.env x = pure x := by intro _; rfl) : PS3 X Z (.Assign [.Name y py] (.ListComp elt [⟨tg, iter, ifs, 0⟩] scope pos) spos) (uAsg (uLc wi g (tt3.any X.s_0) (te3.any X.s_0) (own.map (·.2))) (kName i)) := by
  obtain ⟨p, hi⟩ := hi
  refine ⟨_, ps_setLc hc hN hy hyl hsw p ok (g := g.g X.K) (fun s H C cl fp => (hg s H C cl fp).ex) (tt := tt.any X.s_0) (te := te.any X.s_0) (fun s H C cl fp => by rw [← h1 s H C cl fp]; exact (ht s H C cl fp).pts) (fun s H C cl fp => by rw [← h3 s H C cl fp]; exact (he s H C cl fp).pe) hs, ?_⟩
  intro σ σi H ad S D D3 R sl z k
  refine up_lc hi (ht X.s_0 (fun _ => none) 0 [] []).up (he X.s_0 (fun _ => none) 0 [] []).up hv σ σi H ad S _ _ R sl z ?_
  intro v H1 ad1 S1 it R1 n1 i1 z1
  exact k.nx _ _ H1 ad1 S1 R1 n1 ((sl.go n1).set i i1) z1
end
/-! ### all but one cell stays -/
structure LaysB (c : L) (S S' : Sto) : Prop where
  nt : ∀ d, d ≠ c → (∀ p, d ≠ .t p) → S' d = S d
  ex : ∀ d, d ≠ c → S d ≠ none → S' d = S d
theorem LaysB.refl (c : L) (S : Sto) : LaysB c S S := ⟨fun _ _ _ => rfl, fun _ _ _ => rfl⟩
theorem LaysB.trans {c : L} {S S1 S2 : Sto} (x : LaysB c S S1) (y : LaysB c S1 S2) : LaysB c S S2 :=
  ⟨fun d h1 h2 => (y.nt d h1 h2).trans (x.nt d h1 h2), fun d h1 h2 => (y.ex d h1 (by rw [x.ex d h1 h2]; exact h2)).trans (x.ex d h1 h2)⟩
theorem LaysB.of {c : L} {S S' : Sto} (x : Lays S S') : LaysB c S S' := ⟨fun d _ h => x.nt d h, fun d _ h => x.ex d h⟩
theorem LaysB.put {c : L} {S S1 : Sto} {e : Ce} (x : LaysB c S S1) : LaysB c S (S1.put c e) := ⟨fun d h1 h2 => (put_ne h1).trans (x.nt d h1 h2), fun d h1 h2 => (put_ne h1).trans (x.ex d h1 h2)⟩
theorem LaysB.new {c : L} {S S1 : Sto} {p : Addr} {e : Ce} (x : LaysB c S S1) (h : S1 (.t p) = none) : LaysB c S (S1.put (.t p) e) := by
  refine ⟨fun d h1 h2 => (put_ne (h2 p)).trans (x.nt d h1 h2), fun d h1 h2 => ?_⟩
  have ne : d ≠ .t p := by
    rintro rfl
    rw [x.ex _ h1 h2] at h
    exact h2 h
  exact (put_ne ne).trans (x.ex d h1 h2)
theorem LaysB.at_ {c d : L} {S S' : Sto} {e : Ce} (x : LaysB c S S') (h : S d = some e) (n : d ≠ c) : S' d = some e := (x.ex d n (by rw [h]; exact fun z => nomatch z)).trans h
theorem Lays.at_ {d : L} {S S' : Sto} {e : Ce} (x : Lays S S') (h : S d = some e) : S' d = some e := (x.ex d (by rw [h]; exact fun z => nomatch z)).trans h
/-- a new cell is made and filled -/
theorem LaysB.lays {p : Addr} {S S' : Sto} {e : Ce} (h : S (.t p) = none) (x : LaysB (.t p) (S.put (.t p) e) S') : Lays S S' := by
  refine ⟨fun d hd => ?_, fun d hd => ?_⟩
  · rw [x.nt d (hd p) hd, put_ne (hd p)]
  · have ne : d ≠ .t p := by
      rintro rfl
      exact hd h
    rw [x.ex d ne (by rw [put_ne ne]; exact hd), put_ne ne]
theorem ne_t {c : L} {S : Sto} {p : Addr} {e : Ce} (h : S (.t p) = none) (h2 : S c = some e) : (.t p : L) ≠ c := by
  rintro rfl
  rw [h] at h2
  cases h2
theorem fresh_b {c : L} {S S1 : Sto} {p : Addr} {e : Ce} (hp : S1 (.t p) = none) (h2 : S1 c = some e) (l : LaysB c S S1) : S (.t p) = none ∧ (.t p : L) ≠ c := by
  have nc := ne_t hp h2
  refine ⟨?_, nc⟩
  cases q : S (.t p) with
  | none => rfl
  | some u =>
    rw [l.at_ q nc] at hp
    cases hp
theorem fresh_l {S S1 : Sto} {p : Addr} (hp : S1 (.t p) = none) (l : Lays S S1) : S (.t p) = none := by
  cases q : S (.t p) with
  | none => rfl
  | some u =>
    rw [l.at_ q] at hp
    cases hp
/-- [f(i) for i in range(n)] -/
theorem lc_range3 {ua : TA3} {te : TE3} {j n : Nat} {g : Nat → Im} {vs : List Nat} {σ : St3} {S : Sto} {Q : K3} (hn : n ≤ 100) (hi : ∀ R : List Im → Sto → Prop, R [.d (.int n)] S → ua σ S R)
    (h : ∀ (i : Nat) (S' : Sto) (Q' : K3), i < n → Lays S S' → (∀ S4, Lays S' S4 → Q' (g i) S4) → te ((wipe3 σ vs).set j (some (.d (.int i)))) S' Q')
    (k : ∀ (S' : Sto) (p : Addr), Lays S S' → S (.t p) = none → S' (.t p) = some (.lst ((List.range n).map g)) → Q (.l (.t p)) S') : uLc (wR ua) (.one j) uYes te vs σ S Q := by
  refine hi _ ⟨n, rfl, by omega, .inl fun p hp => ⟨fun m S' => S' (.t p) = some (.lst ((List.range m).map g)) ∧ Lays S S', ⟨put_same, (Lays.refl S).new (.inl hp)⟩, fun _ _ _ _ => trivial, ?_, ?_⟩⟩
  · rintro m it S' hm rfl ⟨h1, h2⟩
    refine ⟨_, rfl, yes3 ?_⟩
    refine h m S' _ hm h2 fun S4 h4 => ?_
    refine ⟨_, h4.at_ h1, ?_, ?_, ?_⟩
    · rw [List.length_map, List.length_range, sizeLine_eq]
      have : m < n := hm
      omega
    · rw [put_same, List.range_succ, List.map_append]
      rfl
    · exact (h2.trans h4).new (.inr hp)
  · rintro S' ⟨h1, h2⟩
    exact k S' p h2 hp h1
end L3
end
section
set_option Elab.async false
set_option maxRecDepth 100000
/-! The network by the words of the document, as a machine: what the nodes keep, what a message does. -/
namespace Mc
open PySem So
inductive Nd where
  | sw | acq (i : Nat) | iss (j : Nat)
  deriving DecidableEq, Repr
abbrev Nm := Nat × Nat
abbrev Cd := Nat × Nat
structure Row where
  name : Nm
  card : Cd
  amount : Int
  deriving DecidableEq
inductive Bd where
  | ask (n : Nm) (c : Cd) (a : Int) | undo (n : Nm) (c : Cd) | answer (n : Nm) (g : Bool) | undone (n : Nm)
  | file (i b : Nat) (rows : List Row) | post (i b j : Nat) (rows : List Row) | posted (i b j : Nat) | filed (i b : Nat)
  | claim (n : Nm) | claimed (n : Nm) (j : Nat) | fight (n : Nm) (j : Nat) | fought (n : Nm)
  | settle (c : Nat) (w : Int) | settled (c : Nat)
  deriving DecidableEq
structure Ms where
  num : Nat
  snd : Nd
  rcv : Nd
  body : Bd
  deriving DecidableEq
inductive Sg where
  | asked | granted | refused | undoing | undone | filed | paid | claimed | fought | held | posted
  deriving DecidableEq
structure Pu where
  merchant : Nat
  card : Cd
  amount : Int
  stage : Sg
  conf : Bool
  deriving DecidableEq
structure Ip where
  holder : Option Nat
  amount : Option Int
  stage : Sg
  conf : Bool
  deriving DecidableEq
structure Fl where
  numbers : List Nat
  conf : Bool
  deriving DecidableEq
structure Ac where
  merchants : List Int
  income : Int
  clearing : Int
  purs : List Pu
  files : List Fl
  cycles : List Nat
  deriving DecidableEq
structure Is where
  balances : List Int
  income : Int
  clearing : Int
  purs : List (Nm × Ip)
  cycles : List Nat
  deriving DecidableEq
inductive Nt where
  | files (i b : Nat) | claims (n : Nm) | fights (n : Nm)
  deriving DecidableEq
structure Cy where
  sums : List (Nd × Int)
  done : List Nd
  deriving DecidableEq
structure Se where
  issuers : List (List Int)
  acquirers : List Nat
  share : Int
  fee : Int
  deriving DecidableEq
structure Fs where
  key : Nat × Nat
  rows : List Row
  done : List Nat
  deriving DecidableEq
structure M where
  setup : Se
  bag : List Ms
  next : Nat
  up : List Nd
  files : List Fs
  claims : List Nm
  fights : List Nm
  noted : List Nt
  cycles : List Cy
  acqs : List Ac
  isss : List Is
  kb : Nat := 0
  ku : Nat := 0
  kn : Nat := 0
  deriving DecidableEq

def Se.nodes (s : Se) : List Nd := .sw :: ((List.range s.acquirers.length).map .acq ++ (List.range s.issuers.length).map .iss)
def init (s : Se) : M := ⟨s, [], 0, s.nodes, [], [], [], [], [], s.acquirers.map fun k => ⟨List.replicate k 0, 0, 0, [], [], []⟩, s.issuers.map fun b => ⟨b, 0, 0, [], []⟩, 0, 0, 0⟩
def M.send (m : M) (s r : Nd) (b : Bd) : M := { m with bag := m.bag ++ [⟨m.next, s, r, b⟩], next := m.next + 1 }
def Se.part (s : Se) (a : Int) : Int := a * s.share / 10000
def Se.cut (s : Se) (a : Int) : Int := a * s.fee / 10000
def Is.held (h : Is) (holder : Nat) : Int := ((h.purs.filter fun p => decide (p.2.holder = some holder) && decide (p.2.stage = .held)).map fun p => p.2.amount.getD 0).sum
def Is.get (h : Is) (n : Nm) : Option Ip := valI h.purs n
def Is.put (h : Is) (n : Nm) (r : Ip) : Is := { h with purs := putI h.purs n r }
def Is.charge (h : Is) (s : Se) (holder : Nat) (a sign : Int) : Is :=
  { h with balances := h.balances.modify holder (· - sign * a), income := h.income + sign * s.part a, clearing := h.clearing + sign * (a - s.part a) }
def Ac.pay (h : Ac) (s : Se) (merchant : Nat) (a sign : Int) : Ac :=
  { h with merchants := h.merchants.modify merchant (· + sign * (a - s.cut a)), income := h.income + sign * (s.cut a - s.part a), clearing := h.clearing - sign * (a - s.part a) }
def M.issuersOf (m : M) (rows : List Row) : List Nat := (List.range m.setup.issuers.length).filter fun j => rows.any fun r => decide (r.card.1 = j)
def M.post (m : M) (f : Fs) : M := (m.issuersOf f.rows).foldl (fun m j => if j ∈ f.done then m else m.send .sw (.iss j) (.post f.key.1 f.key.2 j (f.rows.filter fun r => decide (r.card.1 = j)))) m
def M.fileOf (m : M) (k : Nat × Nat) : Option Fs := m.files.find? fun f => decide (f.key = k)
def M.putFile (m : M) (f : Fs) : M := { m with files := m.files.map fun g => if g.key = f.key then f else g }
def M.noteC (m : M) (n : Nm) : M := if n ∈ m.claims then m else { m with claims := m.claims ++ [n], noted := m.noted ++ [.claims n] }
def M.noteF (m : M) (n : Nm) : M := if n ∈ m.fights then m else { m with fights := m.fights ++ [n], noted := m.noted ++ [.fights n] }
def M.fileHeard (m : M) (i b : Nat) (rows : List Row) : M :=
  match m.fileOf (i, b) with
  | none => ({ m with files := m.files ++ [⟨(i, b), rows, []⟩] } : M).post ⟨(i, b), rows, []⟩
  | some f => if f.done.length = (m.issuersOf f.rows).length then m.send .sw (.acq i) (.filed i b) else m
def M.postedHeard (m : M) (i b j : Nat) : M :=
  match m.fileOf (i, b) with
  | none => m
  | some f => if j ∈ f.done then m else
      let f' : Fs := { f with done := f.done ++ [j] }
      let m' := m.putFile f'
      if f'.done.length = (m.issuersOf f.rows).length then { m' with noted := m'.noted ++ [.files i b] } else m'
def M.atSwitch (m : M) (sender : Nd) (b : Bd) : M :=
  match b with
  | .file i b rows => m.fileHeard i b rows
  | .posted i b j => m.postedHeard i b j
  | .settled c => { m with cycles := m.cycles.modify c fun y => if sender ∈ y.done then y else { y with done := y.done ++ [sender] } }
  | .claimed n j => (m.noteC n).send .sw (.iss j) (.claimed n j)
  | .fought n => ((m.noteC n).noteF n).send .sw (.acq n.1) (.fought n)
  | .ask n c a => m.send .sw (.iss c.1) (.ask n c a)
  | .undo n c => m.send .sw (.iss c.1) (.undo n c)
  | .fight n j => m.send .sw (.iss j) (.fight n j)
  | .answer n g => m.send .sw (.acq n.1) (.answer n g)
  | .undone n => m.send .sw (.acq n.1) (.undone n)
  | .claim n => m.send .sw (.acq n.1) (.claim n)
  | _ => m
def M.onAcq (m : M) (i : Nat) (f : Ac → Ac) : M := { m with acqs := m.acqs.modify i f }
def M.onIss (m : M) (j : Nat) (f : Is → Is) : M := { m with isss := m.isss.modify j f }
def Ac.onPur (h : Ac) (n : Nat) (f : Pu → Pu) : Ac := { h with purs := h.purs.modify n f }
def Ac.filed (h : Ac) (s : Se) (b : Nat) : Ac :=
  match h.files[b]? with
  | none => h
  | some f => if f.conf then h else
      f.numbers.foldl (fun h n => match h.purs[n]? with
        | none => h
        | some p => (h.onPur n fun p => { p with stage := .paid }).pay s p.merchant p.amount 1) { h with files := h.files.set b { f with conf := true } }
def M.atAcq (m : M) (i : Nat) (b : Bd) : M :=
  match b with
  | .settle c w => (m.onAcq i fun h => if c ∈ h.cycles then h else { h with cycles := h.cycles ++ [c], clearing := h.clearing + w }).send (.acq i) .sw (.settled c)
  | .filed _ b => m.onAcq i fun h => h.filed m.setup b
  | .answer n g => m.onAcq i fun h => h.onPur n.2 fun p => if p.stage = .asked then { p with stage := if g then .granted else .refused } else p
  | .undone n => m.onAcq i fun h => h.onPur n.2 fun p => if p.stage = .undoing then { p with stage := .undone } else p
  | .fought n => m.onAcq i fun h => h.onPur n.2 fun p => { p with conf := true }
  | .claim n =>
    match (m.acqs[i]?).bind fun h => h.purs[n.2]? with
    | none => m
    | some p =>
      if p.stage = .paid then (m.onAcq i fun h => (h.onPur n.2 fun p => { p with stage := .claimed }).pay m.setup p.merchant p.amount (-1)).send (.acq i) .sw (.claimed n p.card.1)
      else if p.stage = .claimed ∨ p.stage = .fought then m.send (.acq i) .sw (.claimed n p.card.1) else m
  | _ => m
def Is.asked (h : Is) (n : Nm) (c : Cd) (a : Int) : Is :=
  match h.get n with
  | some _ => h
  | none => h.put n ⟨some c.2, some a, if h.balances.getD c.2 0 - h.held c.2 ≥ a then .held else .refused, false⟩
def Is.undone (h : Is) (n : Nm) : Is :=
  match h.get n with
  | some r => if r.stage = .held then h.put n { r with stage := .undone } else h
  | none => h.put n ⟨none, none, .undone, false⟩
def Is.fought (h : Is) (s : Se) (n : Nm) : Is :=
  match h.get n with
  | some ⟨some k, some a, .claimed, _⟩ =>
    let enough := decide (h.balances.getD k 0 - h.held k ≥ a)
    let h1 := h.charge s k a 1
    let h2 := if enough then h1 else { h1 with balances := h1.balances.modify k (· + a), income := h1.income - a }
    h2.put n ⟨some k, some a, .fought, true⟩
  | _ => h
def Is.posted (h : Is) (s : Se) (rows : List Row) : Is := rows.foldl (fun h r =>
  match h.get r.name with
  | some ⟨some k, some a, .held, c⟩ => (h.put r.name ⟨some k, some a, .posted, c⟩).charge s k a 1
  | _ => h) h
def good : Option Ip → Bool
  | some r => !(decide (r.stage = .refused) || decide (r.stage = .undone))
  | none => false
def M.atIss (m : M) (j : Nat) (b : Bd) : M :=
  match b with
  | .settle c w => (m.onIss j fun h => if c ∈ h.cycles then h else { h with cycles := h.cycles ++ [c], clearing := h.clearing + w }).send (.iss j) .sw (.settled c)
  | .ask n c a => let m' := m.onIss j fun h => h.asked n c a; m'.send (.iss j) .sw (.answer n (good ((m'.isss[j]?).bind fun h => h.get n)))
  | .undo n _ => (m.onIss j fun h => h.undone n).send (.iss j) .sw (.undone n)
  | .fight n _ => let m' := m.onIss j fun h => h.fought m.setup n
    if ((m'.isss[j]?).bind fun h => h.get n).map (·.stage) = some .fought then m'.send (.iss j) .sw (.fought n) else m'
  | .claimed n _ => m.onIss j fun h => match h.get n with
    | some r => h.put n { r with conf := true }
    | none => h
  | .post i b k rows => (m.onIss j fun h => h.posted m.setup rows).send (.iss j) .sw (.posted i b k)
  | _ => m
def M.deliver (m : M) (x : Ms) : M :=
  if x.rcv ∈ m.up then
    match x.rcv with
    | .sw => m.atSwitch x.snd x.body
    | .acq i => m.atAcq i x.body
    | .iss j => m.atIss j x.body
  else m
/-! ### ticks -/
def M.sends (m : M) (s : Nd) (xs : List (Nd × Bd)) : M := xs.foldl (fun m x => m.send s x.1 x.2) m
def Ac.row (h : Ac) (i n : Nat) : Row := ⟨(i, n), (h.purs[n]?.map (·.card)).getD (0, 0), (h.purs[n]?.map (·.amount)).getD 0⟩
def Ac.says (h : Ac) (i : Nat) : List (Nd × Bd) :=
  let ps := h.purs.zipIdx
  (ps.filter fun x => decide (x.1.stage = .asked)).map (fun x => (.sw, .ask (i, x.2) x.1.card x.1.amount)) ++
  (ps.filter fun x => decide (x.1.stage = .undoing)).map (fun x => (.sw, .undo (i, x.2) x.1.card)) ++
  (h.files.zipIdx.filter fun x => !x.1.conf).map (fun x => (.sw, .file i x.2 (x.1.numbers.map (h.row i)))) ++
  (ps.filter fun x => decide (x.1.stage = .fought) && !x.1.conf).map (fun x => (.sw, .fight (i, x.2) x.1.card.1))
def ltN (a b : Nm) : Bool := decide (a.1 < b.1) || (decide (a.1 = b.1) && decide (a.2 < b.2))
def insN {α : Type} (k : α → Nm) (x : α) : List α → List α
  | [] => [x]
  | y :: ys => if ltN (k y) (k x) then y :: insN k x ys else x :: y :: ys
def srtN {α : Type} (k : α → Nm) (xs : List α) : List α := xs.foldr (insN k) []
def Is.says (h : Is) : List (Nd × Bd) := ((srtN (·.1) h.purs).filter fun x => (decide (x.2.stage = .claimed) || decide (x.2.stage = .fought)) && !x.2.conf).map fun x => (.sw, .claim x.1)
def Cy.says (y : Cy) (c : Nat) : List (Nd × Bd) := (y.sums.filter fun x => decide (x.1 ∉ y.done)).map fun x => (x.1, .settle c x.2)
def M.tick (m : M) (n : Nd) : M :=
  if n ∈ m.up then
    match n with
    | .acq i => m.sends n (((m.acqs[i]?).map fun h => h.says i).getD [])
    | .iss j => m.sends n (((m.isss[j]?).map fun h => h.says).getD [])
    | .sw =>
      let m1 := (srtN (·.key) m.files).foldl (fun m f => m.post f) m
      m1.sends .sw ((m1.cycles.zipIdx.map fun x => x.1.says x.2).flatten)
  else m
/-! ### settling -/
def addS (k : Nd) (w : Int) (xs : List (Nd × Int)) : List (Nd × Int) := xs.map fun x => if x.1 = k then (x.1, x.2 + w) else x
def M.rowOf (m : M) (n : Nm) : Option Row := (m.files.map (·.rows)).flatten.find? fun r => decide (r.name = n)
def M.rowsOf (m : M) : Nt → List Row
  | .files i b => ((m.fileOf (i, b)).map (·.rows)).getD []
  | .claims n => (m.rowOf n).toList
  | .fights n => (m.rowOf n).toList
def sgn : Nt → Int
  | .claims _ => -1
  | _ => 1
def M.sums (m : M) : List (Nd × Int) := m.noted.foldl (fun xs t => (m.rowsOf t).foldl (fun xs r =>
  let w := sgn t * (r.amount - m.setup.part r.amount)
  addS (.iss r.card.1) (-w) (addS (.acq r.name.1) w xs)) xs) (m.setup.nodes.map fun n => (n, 0))
def M.settle (m : M) : Option Nat × M :=
  let found := m.sums.filter fun x => decide (x.2 ≠ 0)
  let m1 := { m with noted := [], kn := m.kn + 1 }
  if found = [] then (none, m1) else
    let c := m.cycles.length
    (some c, ({ m1 with cycles := m1.cycles ++ [⟨found, []⟩] } : M).sends .sw (found.map fun x => (x.1, .settle c x.2)))
def M.round (m : M) : M :=
  let m1 := m.setup.nodes.foldl (fun m n => m.tick n) m
  m1.bag.foldl (fun m x => m.deliver x) { m1 with bag := [], kb := m1.kb + 1 }
/-! ### deeds -/
inductive Cl where
  | none | stage | stopped
  deriving DecidableEq
inductive Rs where
  | non | name (n : Nm) | num (k : Nat) | no (c : Cl)
  deriving DecidableEq
def M.purOf (m : M) (n : Nm) : Option Pu := (m.acqs[n.1]?).bind fun h => h.purs[n.2]?
def M.purchase (m : M) (i k : Nat) (c : Cd) (a : Int) : Rs × M :=
  match m.acqs[i]?, m.isss[c.1]? with
  | some h, some g =>
    if h.merchants.length ≤ k ∨ g.balances.length ≤ c.2 then (.no .none, m) else
    if ¬ (1 ≤ a ∧ a ≤ 1000000000) then (.no .stage, m) else
    if .acq i ∉ m.up then (.no .stopped, m) else
    (.name (i, h.purs.length), m.onAcq i fun h => { h with purs := h.purs ++ [⟨k, c, a, .asked, false⟩] })
  | _, _ => (.no .none, m)
def M.undo (m : M) (n : Nm) : Rs × M :=
  match m.purOf n with
  | none => (.no .none, m)
  | some p => if .acq n.1 ∉ m.up then (.no .stopped, m) else
      if p.stage = .asked ∨ p.stage = .granted then (.non, m.onAcq n.1 fun h => h.onPur n.2 fun p => { p with stage := .undoing }) else (.no .stage, m)
def M.fight (m : M) (n : Nm) : Rs × M :=
  match m.purOf n with
  | none => (.no .none, m)
  | some p => if .acq n.1 ∉ m.up then (.no .stopped, m) else
      if p.stage = .claimed then (.non, m.onAcq n.1 fun h => (h.onPur n.2 fun p => { p with stage := .fought }).pay m.setup p.merchant p.amount 1) else (.no .stage, m)
def M.claim (m : M) (n : Nm) : Rs × M :=
  match m.purOf n with
  | none => (.no .none, m)
  | some p => if .iss p.card.1 ∉ m.up then (.no .stopped, m) else
      match (m.isss[p.card.1]?).bind fun h => h.get n with
      | some ⟨some k, some a, .posted, c⟩ => (.non, m.onIss p.card.1 fun h => (h.put n ⟨some k, some a, .claimed, c⟩).charge m.setup k a (-1))
      | _ => (.no .stage, m)
def Ac.grantedN (h : Ac) : List Nat := (h.purs.zipIdx.filter fun x => decide (x.1.stage = .granted)).map (·.2)
def M.close (m : M) (i : Nat) : Rs × M :=
  match m.acqs[i]? with
  | none => (.no .none, m)
  | some h => if .acq i ∉ m.up then (.no .stopped, m) else
      if h.grantedN = [] then (.non, m) else
      (.num h.files.length, m.onAcq i fun h => { h with purs := h.purs.map (fun p => if p.stage = .granted then { p with stage := .filed } else p), files := h.files ++ [⟨h.grantedN, false⟩] })
def M.settles (m : M) : Rs × M := if .sw ∉ m.up then (.no .stopped, m) else match m.settle with
  | (none, m') => (.non, m')
  | (some c, m') => (.num c, m')
def M.find (m : M) (k : Nat) : Option Ms := m.bag.find? fun x => decide (x.num = k)
def M.takes (m : M) (k : Nat) : M := { m with bag := m.bag.filter fun x => decide (x.num ≠ k), kb := m.kb + 1 }
def M.delivers (m : M) (k : Nat) : Rs × M := match m.find k with
  | none => (.no .none, m)
  | some x => (.non, (m.takes k).deliver x)
def M.lose (m : M) (k : Nat) : Rs × M := match m.find k with
  | none => (.no .none, m)
  | some _ => (.non, m.takes k)
def M.double (m : M) (k : Nat) : Rs × M := match m.find k with
  | none => (.no .none, m)
  | some x => (.num m.next, m.send x.snd x.rcv x.body)
def M.stop (m : M) (n : Nd) : M := { m with up := m.up.filter fun x => decide (x ≠ n), ku := m.ku + 1 }
def M.start (m : M) (n : Nd) : M := { m with up := (m.up.filter fun x => decide (x ≠ n)) ++ [n], ku := m.ku + 1 }
inductive Dd where
  | purchase (i k : Nat) (c : Cd) (a : Int) | undo (n : Nm) | claim (n : Nm) | fight (n : Nm) | close (i : Nat) | settle
  | deliver (k : Nat) | lose (k : Nat) | double (k : Nat) | round | tick (n : Nd) | stop (n : Nd) | start (n : Nd)
def M.doIt (m : M) : Dd → Rs × M
  | .purchase i k c a => m.purchase i k c a
  | .undo n => m.undo n
  | .claim n => m.claim n
  | .fight n => m.fight n
  | .close i => m.close i
  | .settle => m.settles
  | .deliver k => m.delivers k
  | .lose k => m.lose k
  | .double k => m.double k
  | .round => (.non, m.round)
  | .tick n => if n ∈ m.setup.nodes then (.non, m.tick n) else (.no .none, m)
  | .stop n => if n ∈ m.setup.nodes then (.non, m.stop n) else (.no .none, m)
  | .start n => if n ∈ m.setup.nodes then (.non, m.start n) else (.no .none, m)
/-! ### as data -/
def nI (n : Nat) : PyData := .int n
def nmD (n : Nm) : PyData := .tuple [nI n.1, nI n.2]
def ndD : Nd → PyData
  | .sw => .tuple [.str "switch"]
  | .acq i => .tuple [.str "acquirer", nI i]
  | .iss j => .tuple [.str "issuer", nI j]
def rowD (r : Row) : PyData := .tuple [nmD r.name, nmD r.card, .int r.amount]
def rowsD (rs : List Row) : PyData := .tuple (rs.map rowD)
def bdD : Bd → PyData
  | .ask n c a => .tuple [.str "ask", nmD n, nmD c, .int a]
  | .undo n c => .tuple [.str "undo", nmD n, nmD c]
  | .answer n g => .tuple [.str "answer", nmD n, .bool g]
  | .undone n => .tuple [.str "undone", nmD n]
  | .file i b rows => .tuple [.str "file", nI i, nI b, rowsD rows]
  | .post i b j rows => .tuple [.str "post", nI i, nI b, nI j, rowsD rows]
  | .posted i b j => .tuple [.str "posted", nI i, nI b, nI j]
  | .filed i b => .tuple [.str "filed", nI i, nI b]
  | .claim n => .tuple [.str "claim", nmD n]
  | .claimed n j => .tuple [.str "claimed", nmD n, nI j]
  | .fight n j => .tuple [.str "fight", nmD n, nI j]
  | .fought n => .tuple [.str "fought", nmD n]
  | .settle c w => .tuple [.str "settle", nI c, .int w]
  | .settled c => .tuple [.str "settled", nI c]
def msD (x : Ms) : PyData := .tuple [nI x.num, ndD x.snd, ndD x.rcv, bdD x.body]
def sgT : Sg → Str
  | .asked => "asked" | .granted => "granted" | .refused => "refused" | .undoing => "undoing" | .undone => "undone" | .filed => "filed" | .paid => "paid" | .claimed => "claimed" | .fought => "fought" | .held => "held" | .posted => "posted"
def optN : Option Nat → PyData
  | some n => nI n
  | none => .none
def optI : Option Int → PyData
  | some n => .int n
  | none => .none
def puD (p : Pu) : PyData := .tuple [nI p.merchant, nmD p.card, .int p.amount, .str (sgT p.stage), .bool p.conf]
def ipD (x : Nm × Ip) : PyData := .tuple [nmD x.1, optN x.2.holder, optI x.2.amount, .str (sgT x.2.stage), .bool x.2.conf]
def intsD (xs : List Int) : PyData := .tuple (xs.map .int)
def natsD (xs : List Nat) : PyData := .tuple (xs.map nI)
def insI (x : Nat) : List Nat → List Nat
  | [] => [x]
  | y :: ys => if y < x then y :: insI x ys else x :: y :: ys
def srtI (xs : List Nat) : List Nat := xs.foldr insI []
def cyD (s : Se) (y : Cy) : PyData := .tuple [.tuple (y.sums.map fun x => .tuple [ndD x.1, .int x.2]), .tuple ((s.nodes.filter fun n => decide (n ∈ y.done)).map ndD)]
def M.show (m : M) : Nd → PyData
  | .sw => .tuple [.tuple ((srtN (·.key) m.files).map fun f => .tuple [nmD f.key, rowsD f.rows, natsD (srtI f.done)]), .tuple ((srtN id m.claims).map nmD), .tuple ((srtN id m.fights).map nmD), .tuple (m.cycles.map (cyD m.setup))]
  | .acq i => match m.acqs[i]? with
    | none => .none
    | some h => .tuple [.tuple [intsD h.merchants, .int h.income, .int h.clearing], .tuple (h.purs.map puD), .tuple (h.files.map fun f => .tuple [natsD f.numbers, .bool f.conf]), natsD (srtI h.cycles)]
  | .iss j => match m.isss[j]? with
    | none => .none
    | some h => .tuple [.tuple [intsD h.balances, .int h.income, .int h.clearing], .tuple ((srtN (·.1) h.purs).map ipD), natsD (srtI h.cycles)]
def rsD : Rs → PyData
  | .non => .none
  | .name n => nmD n
  | .num k => nI k
  | .no .none => .tuple [.str "refused", .str "none"]
  | .no .stage => .tuple [.str "refused", .str "stage"]
  | .no .stopped => .tuple [.str "refused", .str "stopped"]
end Mc
end
section
set_option Elab.async false
set_option maxRecDepth 100000
set_option maxHeartbeats 1000000
/-! The machine in the store, as the law's own network keeps it. -/
namespace Mc
open PySem PySem.Spec PyProof.Rows L2 Mx So L3
def kS (x : Str) : GK := .inl x
def kT (ks : List Key) : GK := .inr ks
def kN (i n : Nat) : List Key := [.inl (i : Int), .inl (n : Int)]
def setD (s : Se) : PyData := .tuple [.tuple (s.issuers.map intsD), natsD s.acquirers, .int s.share, .int s.fee]
def ntD : Nt → PyData
  | .files i b => .tuple [.str "files", nmD (i, b)]
  | .claims n => .tuple [.str "claims", nmD n]
  | .fights n => .tuple [.str "fights", nmD n]
def houses (na ni : Nat) : List (GK × Im) := (List.range na).map (fun i : Nat => (kT [.inr "acquirer", .inl (i : Int)], .l (.acq i))) ++ (List.range ni).map fun j : Nat => (kT [.inr "issuer", .inl (j : Int)], .l (.iss j))
def netC (sd : PyData) (nx : Int) (kb ku kn na ni : Nat) : List (GK × Im) :=
  (kS "setup", .d sd) :: (kS "bag", .l (.bag kb)) :: (kS "next", .d (.int nx)) :: (kS "up", .l (.up ku)) :: (kS "files", .l .files) :: (kS "claims", .l .claims) :: (kS "fights", .l .fights) :: (kS "noted", .l (.noted kn)) :: (kS "cycles", .l .cycles) :: houses na ni
def frK (f : Fl) : Nat := if f.conf then 1 else 0
def acqC (i : Nat) (h : Ac) : List (Key × Im) := [(.inr "merchants", .l (.mer i)), (.inr "income", .d (.int h.income)), (.inr "clearing", .d (.int h.clearing)), (.inr "purchases", .l (.pur i)), (.inr "files", .l (.fls i)), (.inr "cycles", .l (.acyc i))]
def issC (j : Nat) (h : Is) : List (Key × Im) := [(.inr "balances", .l (.bal j)), (.inr "income", .d (.int h.income)), (.inr "clearing", .d (.int h.clearing)), (.inr "purchases", .l (.ipur j)), (.inr "cycles", .l (.icyc j))]
def puC (p : Pu) : List Im := [.d (nI p.merchant), .d (nmD p.card), .d (.int p.amount), .d (.str (sgT p.stage)), .d (.bool p.conf)]
def ipC (p : Ip) : List Im := [.d (optN p.holder), .d (optI p.amount), .d (.str (sgT p.stage)), .d (.bool p.conf)]
def cont (m : M) : So.Loc → Option Ce
  | .net => some (.mx (netC (setD m.setup) m.next m.kb m.ku m.kn m.acqs.length m.isss.length))
  | .bag k => if k = m.kb then some (.lst (m.bag.map fun x => .d (msD x))) else none
  | .up k => if k = m.ku then some (.lst (m.up.map fun x => .d (ndD x))) else none
  | .noted k => if k = m.kn then some (.lst (m.noted.map fun x => .d (ntD x))) else none
  | .files => some (.dt (m.files.map fun f => (kN f.key.1 f.key.2, .l (.file f.key.1 f.key.2))))
  | .file i b => (m.fileOf (i, b)).map fun f => .lst [.d (rowsD f.rows), .l (.fileC i b)]
  | .fileC i b => (m.fileOf (i, b)).map fun f => .lst (f.done.map fun j => .d (nI j))
  | .claims => some (.lst (m.claims.map fun n => .d (nmD n)))
  | .fights => some (.lst (m.fights.map fun n => .d (nmD n)))
  | .cycles => some (.lst ((List.range m.cycles.length).map fun c => .l (.cyc c)))
  | .cyc c => (m.cycles[c]?).map fun _ => .lst [.l (.cycS c), .l (.cycC c)]
  | .cycS c => (m.cycles[c]?).map fun y => .lst (y.sums.map fun x => .d (.tuple [ndD x.1, .int x.2]))
  | .cycC c => (m.cycles[c]?).map fun y => .lst (y.done.map fun n => .d (ndD n))
  | .acq i => (m.acqs[i]?).map fun h => .dk (acqC i h)
  | .mer i => (m.acqs[i]?).map fun h => .lst (h.merchants.map fun x => .d (.int x))
  | .pur i => (m.acqs[i]?).map fun h => .lst ((List.range h.purs.length).map fun n => .l (.prow i n))
  | .prow i n => ((m.acqs[i]?).bind fun h => h.purs[n]?).map fun p => .lst (puC p)
  | .fls i => (m.acqs[i]?).map fun h => .lst (h.files.zipIdx.map fun x => .l (.frow i x.2 (frK x.1)))
  | .frow i b k => ((m.acqs[i]?).bind fun h => h.files[b]?).bind fun f => if k = frK f then some (.lst [.d (natsD f.numbers), .d (.bool f.conf)]) else none
  | .acyc i => (m.acqs[i]?).map fun h => .lst (h.cycles.map fun c => .d (nI c))
  | .iss j => (m.isss[j]?).map fun h => .dk (issC j h)
  | .bal j => (m.isss[j]?).map fun h => .lst (h.balances.map fun x => .d (.int x))
  | .ipur j => (m.isss[j]?).map fun h => .dt (h.purs.map fun x => (kN x.1.1 x.1.2, .l (.irow j x.1.1 x.1.2)))
  | .irow j i n => ((m.isss[j]?).bind fun h => h.get (i, n)).map fun p => .lst (ipC p)
  | .icyc j => (m.isss[j]?).map fun h => .lst (h.cycles.map fun c => .d (nI c))
  | .box | .cells | .pr _ _ _ | .t _ | .swl => none
def frOk (o : Option Fl) (k : Nat) : Bool := match o with
  | some f => decide (frK f ≤ k)
  | none => true
/-- the cells that the network holds, or may come to hold -/
def netCell (m : M) : So.Loc → Bool
  | .bag k => decide (m.kb ≤ k)
  | .up k => decide (m.ku ≤ k)
  | .noted k => decide (m.kn ≤ k)
  | .frow i b k => frOk ((m.acqs[i]?).bind fun h => h.files[b]?) k
  | .box | .cells | .pr _ _ _ | .t _ | .swl => false
  | _ => true
def On (S : Sto) (m : M) : Prop := ∀ c, netCell m c = true → S c = cont m c
/-- what is not the network's is as it was -/
def Oth (m : M) (S S' : Sto) : Prop := ∀ c, netCell m c = false → S c ≠ none → S' c = S c
theorem Oth.refl (m : M) (S : Sto) : Oth m S S := fun _ _ _ => rfl
theorem Oth.trans {m m' : M} {S S1 S2 : Sto} (x : Oth m S S1) (y : Oth m' S1 S2) (h : ∀ c, netCell m c = false → netCell m' c = false) : Oth m S S2 := fun c hc hS =>
  (y c (h c hc) (by rw [x c hc hS]; exact hS)).trans (x c hc hS)
theorem Oth.put {m : M} {S S' : Sto} {c : So.Loc} {e : Ce} (x : Oth m S S') (h : netCell m c = true) : Oth m S (S'.put c e) := fun d hd hS => by
  rw [put_ne (fun z => by subst z; rw [h] at hd; cases hd)]
  exact x d hd hS
theorem Oth.new {m : M} {S S' : Sto} {c : So.Loc} {e : Ce} (x : Oth m S S') (h : S' c = none) : Oth m S (S'.put c e) := fun d hd hS => by
  rw [put_ne (fun z => by subst z; rw [x _ hd hS] at h; exact hS h)]
  exact x d hd hS
/-- a cycle is added -/
def Ac.cyc (h : Ac) (c : Nat) (w : Int) : Ac := if c ∈ h.cycles then h else { h with cycles := h.cycles ++ [c], clearing := h.clearing + w }
def Is.cyc (h : Is) (c : Nat) (w : Int) : Is := if c ∈ h.cycles then h else { h with cycles := h.cycles ++ [c], clearing := h.clearing + w }
end Mc
end
section
set_option Elab.async false
set_option linter.all false
set_option maxRecDepth 100000
set_option maxHeartbeats 1000000
/-! The names of the nodes; how the objects of the network are made. -/
namespace Pg
open PySem PySem.Spec PyProof.Rows L2 Mx So L3 St Mc
def top (i : Nat) : Stmt := PySem.Challenge.pw_acquit_k02_what_is_a_setup.main.body.getD i (.Pass ⟨0, 0, 0, 0⟩)
/-! ### nodes as data -/
def acqD (d : PyData) : PyData := .tuple [.str "acquirer", d]
def issD (d : PyData) : PyData := .tuple [.str "issuer", d]
def nodesD (na ni : Nat) : List PyData := swD :: ((List.range na).map (fun i : Nat => acqD (.int i)) ++ (List.range ni).map fun j : Nat => issD (.int j))
def isPair : PyData → Bool
  | .tuple [_, _] => true
  | _ => false
def spOf1 (g : PyData → PyData) : Sp3 := fun its S Q _ => ∃ d, its = [.d d] ∧ Q (.d (g d)) S
def spIdx : Sp3 := fun its S Q _ => ∃ d n, its = [.d d, .d (.int n)] ∧ Q (.d (.bool (isNum 0 (n - 1) d))) S
section
variable {P : Program} {w : World} {K : PySem.W.Frag} {mg : Str → Option Value} {base : Heap}
abbrev sAcqN : Stmt := top 24
theorem scAcqN : FnScope ["i"] ["i"] (defScope sAcqN) := ⟨rfl, rfl, rfl, by decide +kernel, rfl, by decide +kernel, by decide +kernel⟩
theorem ok_acqN {f : Addr} {fd : FuncData} (F : Fun K "acquirer_node" "acquirer_node" sAcqN f fd) : FnOk P w K mg base (LT.CX P w) 1 f fd ["i"] (spOf P w (spOf1 acqD)) := by
  refine ok3 F scAcqN (fun its St Q E h => ?_) (fun cdv A outer s H E E3 hr => ?_)
  · obtain ⟨d, rfl, _⟩ := h
    rfl
  refine ⟨_, ss_one (s3_ret (e3_tup (a3_cons e3_str (a3_cons (v3 0) a3_nil)))), ?_⟩
  rintro its St Q ⟨d, rfl, q⟩
  exact ⟨_, rfl, _, rfl, by show 2 ≤ sizeLine; decide, q⟩
abbrev sIssN : Stmt := top 25
theorem scIssN : FnScope ["j"] ["j"] (defScope sIssN) := ⟨rfl, rfl, rfl, by decide +kernel, rfl, by decide +kernel, by decide +kernel⟩
theorem ok_issN {f : Addr} {fd : FuncData} (F : Fun K "issuer_node" "issuer_node" sIssN f fd) : FnOk P w K mg base (LT.CX P w) 1 f fd ["j"] (spOf P w (spOf1 issD)) := by
  refine ok3 F scIssN (fun its St Q E h => ?_) (fun cdv A outer s H E E3 hr => ?_)
  · obtain ⟨d, rfl, _⟩ := h
    rfl
  refine ⟨_, ss_one (s3_ret (e3_tup (a3_cons e3_str (a3_cons (v3 0) a3_nil)))), ?_⟩
  rintro its St Q ⟨d, rfl, q⟩
  exact ⟨_, rfl, _, rfl, by show 2 ≤ sizeLine; decide, q⟩
abbrev sIdx : Stmt := top 27
theorem scIdx : FnScope ["value", "many"] ["value", "many"] (defScope sIdx) := ⟨rfl, rfl, rfl, by decide +kernel, rfl, by decide +kernel, by decide +kernel⟩
theorem ok_idx {f fN : Addr} {fd fdN : FuncData} (F : Fun K "is_index" "is_index" sIdx f fd)
    (GN : FnOk P w K mg base (LT.CX P w) 1 fN fdN ["value", "least", "most"] (spOf P w spNum)) (bN : Binds K fdN ["value", "least", "most"] []) (mN : mg "is_number" = some (.ref fN)) (kN : PySem.W.keepIn K (.ref fN) = true) :
    FnOk P w K mg base (LT.CX P w) 2 f fd ["value", "many"] (spOf P w spIdx) := by
  refine ok3 F scIdx (fun its St Q E h => ?_) (fun cdv A outer s H E E3 hr => ?_)
  · obtain ⟨d, n, rfl, _⟩ := h
    rfl
  refine ⟨_, ss_one (s3_ret (e3_call GN hr rfl mN kN bN (a3_cons (v3 0) (a3_cons e3_int (a3_cons (e3_op op_sub (up_I0 fun _ _ _ => .int _) (v3 1) e3_int) a3_nil))))), ?_⟩
  rintro its St Q ⟨d, n, rfl, q⟩
  exact ⟨_, rfl, _, rfl, n, 1, rfl, rfl, d, 0, n - 1, rfl, q⟩
abbrev sPair : Stmt := top 28
theorem scPair : FnScope ["value"] ["value"] (defScope sPair) := ⟨rfl, rfl, rfl, by decide +kernel, rfl, by decide +kernel, by decide +kernel⟩
def spTest (g : PyData → Bool) : Sp3 := fun its S Q _ => ∃ d, its = [.d d] ∧ Q (.d (.bool (g d))) S
theorem ok_pair {f : Addr} {fd : FuncData} (F : Fun K "is_pair" "is_pair" sPair f fd) (T : Txt mg) : FnOk P w K mg base (LT.CX P w) 1 f fd ["value"] (spOf P w (spTest isPair)) := by
  refine ok3 F scPair (fun its St Q E h => ?_) (fun cdv A outer s H E E3 hr => ?_)
  · obtain ⟨d, rfl, _⟩ := h
    rfl
  refine ⟨_, ss_one (s3_ret (e3_and (e3_isi "tuple" rfl T.isi (by decide +kernel) (v3 0) rfl T.tt (by decide +kernel)) (e3_one (e3_cmp op_eq up_eq (e3_len rfl T.len PySem.boot_len (a3_cons (v3 0) a3_nil)) e3_int (nomark _))))), ?_⟩
  rintro its St Q ⟨d, rfl, q⟩
  cases d with
  | tuple ds =>
    refine ⟨_, rfl, .tuple ds, true, rfl, k_t_tuple, true, rfl, ?_⟩
    refine ⟨_, rfl, .d (.tuple ds), ds.length, rfl, .inr ⟨ds, rfl, rfl⟩, .int ds.length, .int 2, rfl, rfl, rfl, fun c hc => ?_⟩
    have e : isPair (.tuple ds) = c := by
      match ds, hc with
      | [], hc =>
        cases c with
        | false => rfl
        | true => cases hc.mp rfl
      | [_], hc =>
        cases c with
        | false => rfl
        | true => cases hc.mp rfl
      | [_, _], hc =>
        have : c = true := hc.mpr rfl
        rw [this]
        rfl
      | _ :: _ :: _ :: r, hc =>
        cases c with
        | false => rfl
        | true =>
          have z := hc.mp rfl
          simp only [List.length_cons] at z
          injection z with z
          omega
    rw [e] at q
    exact q
  | bool b => exact ⟨_, rfl, .bool b, false, rfl, k_b_tuple, false, rfl, q⟩
  | int b => exact ⟨_, rfl, .int b, false, rfl, k_i_tuple, false, rfl, q⟩
  | none => exact ⟨_, rfl, .none, false, rfl, k_n_tuple, false, rfl, q⟩
  | str x => exact ⟨_, rfl, .str x, false, rfl, k_s_tuple, false, rfl, q⟩
  | list ds => exact ⟨_, rfl, .list ds, false, rfl, k_l_tuple, false, rfl, q⟩
  | dict ds => exact ⟨_, rfl, .dict ds, false, rfl, k_d_tuple, false, rfl, q⟩
theorem shaped2 {a c : PyData} (h : SeqAt.shaped (.tuple [a, c]) = true) : SeqAt.shaped a = true ∧ SeqAt.shaped c = true := by
  have h1 := SeqAt.canLay_of_shaped h
  have h2 := SeqAt.depth_of_shaped h
  simp only [PyData.canLay0, PyData.canLayAll0, Bool.and_eq_true] at h1
  simp only [PyData.depth, PyData.depthAll] at h2
  unfold SeqAt.shaped
  rw [h1.1, h1.2.1]
  refine ⟨?_, ?_⟩ <;> · simp only [Bool.true_and, decide_eq_true_iff]; omega
theorem sh_sw : SeqAt.shaped swD = true := by decide +kernel
theorem sh_acq : SeqAt.shaped (.str "acquirer") = true := by decide +kernel
theorem sh_iss : SeqAt.shaped (.str "issuer") = true := by decide +kernel
/-- a setup, as far as the nodes go -/
def StD (sd : PyData) (is as : List PyData) (sh fe : PyData) : Prop := sd = .tuple [.tuple is, .tuple as, sh, fe] ∧ is.length ≤ 2 ∧ as.length ≤ 2
def isNode (na ni : Nat) (d : PyData) : Bool := match d with
  | .tuple [a, b] => if PyData.eqv a (.str "acquirer") then isNum 0 (na - 1) b else PyData.eqv a (.str "issuer") && isNum 0 (ni - 1) b
  | d => PyData.eqv d swD
abbrev sNode : Stmt := top 29
theorem scNode : FnScope ["setup", "node"] ["setup", "node"] (defScope sNode) := ⟨rfl, rfl, rfl, by decide +kernel, rfl, by decide +kernel, by decide +kernel⟩
def spNode (b : Addr) : Sp3 := fun its S Q _ => ∃ sd is as sh fe d, its = [.d sd, .d d] ∧ StD sd is as sh fe ∧ S .swl = some (.sw b) ∧ SeqAt.shaped d = true ∧ Q (.d (.bool (isNode as.length is.length d))) S
theorem pair_of {d : PyData} (h : isPair d = true) : ∃ a b, d = .tuple [a, b] := by
  cases d with
  | tuple ds =>
    match ds, h with
    | [a, b], _ => exact ⟨a, b, rfl⟩
    | [], h => cases h
    | [_], h => cases h
    | _ :: _ :: _ :: _, h => cases h
  | _ => cases h
theorem node_one {na ni : Nat} {d : PyData} (h : isPair d = false) : isNode na ni d = PyData.eqv d swD := by
  unfold isNode
  split
  · cases h
  · rfl
theorem ok_node {f fP fI b : Addr} {fd fdP fdI : FuncData} (F : Fun K "is_node" "is_node" sNode f fd) (T : Txt mg)
    (GP : FnOk P w K mg base (LT.CX P w) 1 fP fdP ["value"] (spOf P w (spTest isPair))) (bP : Binds K fdP ["value"] []) (mP : mg "is_pair" = some (.ref fP)) (kP : PySem.W.keepIn K (.ref fP) = true)
    (GI : FnOk P w K mg base (LT.CX P w) 2 fI fdI ["value", "many"] (spOf P w spIdx)) (bI : Binds K fdI ["value", "many"] []) (mI : mg "is_index" = some (.ref fI)) (kI : PySem.W.keepIn K (.ref fI) = true)
    (mS : mg "SWITCH" = some (.ref b)) : FnOk P w K mg base (LT.CX P w) 3 f fd ["setup", "node"] (spOf P w (spNode b)) := by
  refine ok3 F scNode (fun its St Q E h => ?_) (fun cdv A outer s H E E3 hr => ?_)
  · obtain ⟨sd, is, as, sh, fe, d, rfl, _⟩ := h
    rfl
  have hr1 : Room 1 _ := hr.mono (by decide)
  refine ⟨_, ss_cons (s3_if (t3_not (t3_val (e3_call GP hr1 rfl mP kP bP (a3_cons (v3 1) a3_nil)))) (ss_one (s3_ret (e3_cmp (op_eqD hr.units) up_eqD (v3 1) (e3_sw rfl mS) (nomark _)))) ss_nil)
    (ss_cons (s3_if (t3_cmp (op_eqD hr.units) up_eqD (e3_ixT (v3 1) e3_int (by intro _ _; rfl)) e3_str (nomark _)) (ss_one (s3_ret (e3_call GI hr rfl mI kI bI (a3_cons (e3_ixT (v3 1) e3_int (by intro _ _; rfl)) (a3_cons (e3_len rfl T.len PySem.boot_len (a3_cons (e3_ixT (v3 0) e3_int (by intro _ _; rfl)) a3_nil)) a3_nil))))) ss_nil)
    (ss_one (s3_ret (e3_and (e3_cmp (op_eqD hr.units) up_eqD (e3_ixT (v3 1) e3_int (by intro _ _; rfl)) e3_str (nomark _)) (e3_one (e3_call GI hr rfl mI kI bI (a3_cons (e3_ixT (v3 1) e3_int (by intro _ _; rfl)) (a3_cons (e3_len rfl T.len PySem.boot_len (a3_cons (e3_ixT (v3 0) e3_int (by intro _ _; rfl)) a3_nil)) a3_nil)))))))), ?_⟩
  rintro its St Q ⟨sd, is, as, sh, fe, d, rfl, ⟨rfl, hi, ha⟩, hs, hd, q⟩
  refine ⟨_, rfl, d, rfl, _, rfl, ite3 (fun h => ?_) (fun h => ?_)⟩
  · have h' : isPair d = false := by simpa using h
    refine ⟨_, rfl, hs, d, swD, rfl, rfl, hd, sh_sw, ?_⟩
    rw [node_one h'] at q
    exact q
  · have h' : isPair d = true := by simpa using h
    obtain ⟨a, c, rfl⟩ := pair_of h'
    have hsa : SeqAt.shaped a = true ∧ SeqAt.shaped c = true := shaped2 hd
    refine ⟨_, rfl, _, 0, a, rfl, rfl, rfl, a, .str "acquirer", rfl, rfl, hsa.1, sh_acq, _, rfl, ite3 (fun h1 => ?_) (fun h1 => ?_)⟩
    · have e : isNode as.length is.length (.tuple [a, c]) = isNum 0 (as.length - 1) c := by
        show (if PyData.eqv a (.str "acquirer") = true then _ else _) = _
        have h1' : PyData.eqv a (.str "acquirer") = true := h1
        rw [if_pos h1']
      rw [e] at q
      exact ⟨_, rfl, _, 1, c, rfl, rfl, rfl, _, rfl, _, 1, .tuple as, rfl, rfl, rfl, .d (.tuple as), as.length, rfl, .inr ⟨as, rfl, rfl⟩, c, as.length, rfl, q⟩
    · have h1' : PyData.eqv a (.str "acquirer") = false := h1
      refine ⟨_, rfl, _, 0, a, rfl, rfl, rfl, a, .str "issuer", rfl, rfl, hsa.1, sh_iss, _, rfl, ite3 (fun h2 => ?_) (fun h2 => ?_)⟩
      · have e : isNode as.length is.length (.tuple [a, c]) = isNum 0 (is.length - 1) c := by
          show (if PyData.eqv a (.str "acquirer") = true then _ else (PyData.eqv a (.str "issuer") && _)) = _
          rw [h1', if_neg (by decide)]
          have h2' : PyData.eqv a (.str "issuer") = true := h2
          rw [h2']
          rfl
        rw [e] at q
        exact ⟨_, rfl, _, 1, c, rfl, rfl, rfl, _, rfl, _, 0, .tuple is, rfl, rfl, rfl, .d (.tuple is), is.length, rfl, .inr ⟨is, rfl, rfl⟩, c, is.length, rfl, q⟩
      · have e : isNode as.length is.length (.tuple [a, c]) = false := by
          show (if PyData.eqv a (.str "acquirer") = true then _ else (PyData.eqv a (.str "issuer") && _)) = _
          rw [h1', if_neg (by decide)]
          have h2' : PyData.eqv a (.str "issuer") = false := h2
          rw [h2']
          rfl
        rw [e] at q
        exact q
/-! ### nodes_of -/
abbrev sNodes : Stmt := top 26
theorem scNodes : FnScope ["setup", "issuers", "acquirers", "houses", "i", "j"] ["setup"] (defScope sNodes) := ⟨rfl, rfl, rfl, by decide +kernel, rfl, by decide +kernel, by decide +kernel⟩
def spNodes (b : Addr) : Sp3 := fun its S Q _ => ∃ sd is as sh fe, its = [.d sd] ∧ StD sd is as sh fe ∧ S .swl = some (.sw b) ∧ ∀ S' p, Lays S S' → S (.t p) = none → S' (.t p) = some (.lst ((nodesD as.length is.length).map .d)) → Q (.l (.t p)) S'
theorem ok_nodes {f fA fI b : Addr} {fd fdA fdI : FuncData} (F : Fun K "nodes_of" "nodes_of" sNodes f fd) (T : Txt mg) (mr : mg "range" = none)
    (GA : FnOk P w K mg base (LT.CX P w) 1 fA fdA ["i"] (spOf P w (spOf1 acqD))) (bA : Binds K fdA ["i"] []) (mA : mg "acquirer_node" = some (.ref fA)) (kA : PySem.W.keepIn K (.ref fA) = true)
    (GI : FnOk P w K mg base (LT.CX P w) 1 fI fdI ["j"] (spOf P w (spOf1 issD))) (bI : Binds K fdI ["j"] []) (mI : mg "issuer_node" = some (.ref fI)) (kI : PySem.W.keepIn K (.ref fI) = true)
    (mS : mg "SWITCH" = some (.ref b)) : FnOk P w K mg base (LT.CX P w) 2 f fd ["setup"] (spOf P w (spNodes b)) := by
  refine ok3 F scNodes (fun its St Q E h => ?_) (fun cdv A outer s H E E3 hr => ?_)
  · obtain ⟨sd, is, as, sh, fe, rfl, _⟩ := h
    rfl
  refine ⟨_, ss_cons (s3_par (i := 1) (j := 2) rfl scNodes.nd rfl rfl (by decide) rfl rfl (a3_cons (e3_ixT (v3 0) e3_int (by intro _ _; rfl)) (a3_cons (e3_ixT (v3 0) e3_int (by intro _ _; rfl)) a3_nil)) (by rfl))
    (ss_cons (s3_setLc (i := 3) (own := [("i", 4)]) (g := .one 4) rfl scNodes.nd rfl rfl (sw_true rfl rfl rfl (by decide +kernel)) (i3_range rfl mr (a3_cons (e3_len rfl T.len PySem.boot_len (a3_cons (v3 2) a3_nil)) a3_nil)) (blkOk_by (N := ["setup", "issuers", "acquirers", "houses", "i", "j"]) (sc := defScope sNodes) (by decide +kernel)) (fun j hj => hj)
      (fun _ _ _ _ _ => b3_one (i := 4) scNodes.nd rfl (Or.inl rfl)) (fun _ _ _ _ _ => ts3_nil) (fun _ _ _ _ _ => by exact e3_call GA hr (by rfl) mA kA bA (a3_cons (v3 4) a3_nil)))
    (ss_one (s3_ret (e3_lst (a3_cons (e3_sw rfl mS) (a3_star (v3 3) (a3_star (e3_lc (own := [("j", 5)]) (g := .one 5) rfl scNodes.nd (i3_range rfl mr (a3_cons (e3_len rfl T.len PySem.boot_len (a3_cons (v3 1) a3_nil)) a3_nil)) (blkOk_by (N := ["setup", "issuers", "acquirers", "houses", "i", "j"]) (sc := defScope sNodes) (by decide +kernel)) (fun j hj => hj)
      (fun _ _ _ _ _ => b3_one (i := 5) scNodes.nd rfl (Or.inl rfl)) (fun _ _ _ _ _ => ts3_nil) (fun _ _ _ _ _ => by exact e3_call GI hr (by rfl) mI kI bI (a3_cons (v3 5) a3_nil))) a3_nil))))))), ?_⟩
  rintro its St Q ⟨sd, is, as, sh, fe, rfl, ⟨rfl, hi, ha⟩, hs, q⟩
  refine ⟨_, rfl, _, 0, .tuple is, rfl, rfl, rfl, _, rfl, _, 1, .tuple as, rfl, rfl, rfl, _, _, rfl, ?_⟩
  dsimp only [uSeq, uAsg, uRet, Blk.any]
  refine lc_range3 (n := as.length) (g := fun i => .d (acqD (.int i))) (by omega) (fun R hR => ⟨_, rfl, .d (.tuple as), as.length, rfl, .inr ⟨as, rfl, rfl⟩, hR⟩) (fun i S' Q' _ l kq => ⟨_, rfl, .int i, rfl, kq S' (Lays.refl S')⟩) fun S1 p1 l1 f1 h1 => ?_
  refine ⟨l1.at_ hs, _, rfl, _, .inl ⟨_, rfl, h1⟩, ?_⟩
  dsimp only [uStar, Blk.any]
  refine lc_range3 (n := is.length) (g := fun i => .d (issD (.int i))) (by omega) (fun R hR => ⟨_, rfl, .d (.tuple is), is.length, rfl, .inr ⟨is, rfl, rfl⟩, hR⟩) (fun i S' Q' _ l kq => ⟨_, rfl, .int i, rfl, kq S' (Lays.refl S')⟩) fun S2 p2 l2 f2 h2 => ?_
  refine ⟨_, .inl ⟨_, rfl, h2⟩, ?_⟩
  have e : (nodesD as.length is.length).map Im.d = Im.d swD :: ((List.range as.length).map (fun i : Nat => Im.d (acqD (.int i))) ++ ((List.range is.length).map (fun i : Nat => Im.d (issD (.int i))) ++ [])) := by
    unfold nodesD
    rw [List.map_cons, List.map_append, List.map_map, List.map_map, List.append_nil]
    rfl
  refine ⟨?_, .inl fun p hp => ?_⟩
  · rw [← e, List.length_map, sizeLine_eq]
    unfold nodesD
    simp
    omega
  · have l12 := l1.trans l2
    have hp0 : St (.t p) = none := by
      cases q0 : St (.t p) with
      | none => rfl
      | some u =>
        rw [l12.at_ q0] at hp
        cases hp
    refine q _ p (l12.new (.inl hp)) hp0 ?_
    rw [put_same, e]
end
end Pg
end
section
set_option Elab.async false
set_option linter.all false
set_option maxRecDepth 100000
set_option maxHeartbeats 1000000
/-! How the objects of the network are made. -/
namespace Pg
open PySem PySem.Spec PyProof.Rows L2 Mx So L3 St Mc
section
variable {P : Program} {w : World} {K : PySem.W.Frag} {mg : Str → Option Value} {base : Heap}
/-- the class at C: its objects have fields, of these names -/
structure Oc (K : PySem.W.Frag) (C : Addr) (fs : List Str) : Prop where
  cl : Cls K C
  na : ∀ f ∈ fs, NoAttr K C f
theorem Oc.at_ {C : Addr} {fs : List Str} (o : Oc K C fs) (i : Nat) {f : Str} (h : fs[i]? = some f := by rfl) : NoAttr K C f := o.na f (List.mem_of_getElem? h)
/-- the def m of the class C, told by the class -/
structure Df (K : PySem.W.Frag) (mg : Str → Option Value) (x : Str) (C : Addr) (m : Str) (f : Addr) : Prop where
  mg_ : mg x = some (.ref C)
  rd : ClX.CRead K C (.type "type")
  at_ : PySem.W.findCls K (.ref C) (.type "type") m = some (.val (.ref f))
  kp : PySem.W.keepIn K (.ref f) = true
abbrev sKeep : Stmt := (inClass (top 33) 0)
theorem scKeep : FnScope ["self", "entries"] ["self", "entries"] (defScope sKeep) := ⟨rfl, rfl, rfl, by decide +kernel, rfl, by decide +kernel, by decide +kernel⟩
def spKeep (K : PySem.W.Frag) : Sp3 := fun its S Q _ => ∃ c C fs e, its = [.l c, e] ∧ S c = some (.ins C fs) ∧ Cls K C ∧ NoAttr K C "entries" ∧ fs.length < 500 ∧ Q (.d .none) (S.put c (.ins C (putFI "entries" e fs)))
theorem ok_keep {f : Addr} {fd : FuncData} (F : Fun K "__init__" "Keeper.__init__" sKeep f fd) : FnOk P w K mg base (LT.CX P w) 1 f fd ["self", "entries"] (spOf P w (spKeep K)) := by
  refine ok3 F scKeep (fun its St Q E h => ?_) (fun cdv A outer s H E E3 hr => ?_)
  · obtain ⟨c, C, fs, e, rfl, _⟩ := h
    rfl
  refine ⟨_, ss_one (s3_fld (v3 0) (v3 1) (by rfl)), ?_⟩
  rintro its St Q ⟨c, C, fs, e, rfl, hc, cl, na, hl, q⟩
  exact ⟨_, rfl, _, rfl, c, C, fs, rfl, hc, cl, na, by omega, q⟩
/-- an acquirer's, an issuer's first fields -/
def houseF (e : Im) (sh fe : Im) (p : Addr) : List (Str × Im) := [("entries", e), ("share", sh), ("fee", fe), ("income", .d (.int 0)), ("clearing", .d (.int 0)), ("cycles", .l (.t p))]
abbrev houseN : List Str := ["entries", "share", "fee", "income", "clearing", "cycles"]
abbrev sHouse : Stmt := (inClass (top 34) 0)
theorem scHouse : FnScope ["self", "entries", "share", "fee"] ["self", "entries", "share", "fee"] (defScope sHouse) := ⟨rfl, rfl, rfl, by decide +kernel, rfl, by decide +kernel, by decide +kernel⟩
def spHouse (K : PySem.W.Frag) : Sp3 := fun its S Q _ => ∃ c C e sh fe, its = [.l c, e, sh, fe] ∧ S c = some (.ins C []) ∧ Oc K C houseN ∧ ∀ S' p, LaysB c S S' → S (.t p) = none → S' c = some (.ins C (houseF e sh fe p)) → S' (.t p) = some (.dk []) → Q (.d .none) S'
theorem ok_house {f fK CK : Addr} {fd fdK : FuncData} (F : Fun K "__init__" "House.__init__" sHouse f fd)
    (GK : FnOk P w K mg base (LT.CX P w) 1 fK fdK ["self", "entries"] (spOf P w (spKeep K))) (bK : Binds K fdK ["self", "entries"] []) (dK : Df K mg "Keeper" CK "__init__" fK) :
    FnOk P w K mg base (LT.CX P w) 2 f fd ["self", "entries", "share", "fee"] (spOf P w (spHouse K)) := by
  refine ok3 F scHouse (fun its St Q E h => ?_) (fun cdv A outer s H E E3 hr => ?_)
  · obtain ⟨c, C, e, sh, fe, rfl, _⟩ := h
    rfl
  refine ⟨_, ss_cons (s3_expr (e3_clsfn (E := E) (LT.takes_of rfl rfl rfl rfl) (fun _ _ _ _ => Iff.rfl) rfl dK.mg_ dK.rd dK.at_ dK.kp GK hr bK (a3_cons (v3 0) (a3_cons (v3 1) a3_nil))))
    (ss_cons (s3_fld (v3 0) (v3 2) (by rfl)) (ss_cons (s3_fld (v3 0) (v3 3) (by rfl)) (ss_cons (s3_fld (v3 0) e3_int (by rfl)) (ss_cons (s3_fld (v3 0) e3_int (by rfl)) (ss_one (s3_fld (v3 0) e3_dnewK (by rfl))))))), ?_⟩
  rintro its St Q ⟨c, C, e, sh, fe, rfl, hc, O, q⟩
  refine ⟨_, rfl, _, rfl, c, C, [], e, rfl, hc, O.cl, O.at_ 0, by decide, ?_⟩
  refine ⟨_, rfl, _, rfl, c, C, _, rfl, put_same, O.cl, O.at_ 1, by show 1 < 1000; decide, ?_⟩
  refine ⟨_, rfl, _, rfl, c, C, _, rfl, put_same, O.cl, O.at_ 2, by show 2 < 1000; decide, ?_⟩
  refine ⟨_, rfl, c, C, _, rfl, put_same, O.cl, O.at_ 3, by show 3 < 1000; decide, ?_⟩
  refine ⟨_, rfl, c, C, _, rfl, put_same, O.cl, O.at_ 4, by show 4 < 1000; decide, ?_⟩
  refine .inl fun p hp => ?_
  obtain ⟨hp0, nc⟩ := fresh_b hp put_same (LaysB.refl c St).put.put.put.put.put
  refine ⟨_, rfl, c, C, _, rfl, (put_ne nc.symm).trans put_same, O.cl, O.at_ 5, by show 5 < 1000; decide, ?_⟩
  exact q _ p ((LaysB.refl c St).put.put.put.put.put.new hp).put hp0 put_same ((put_ne nc).trans put_same)
end
end Pg
end
section
set_option Elab.async false
set_option linter.all false
set_option maxRecDepth 100000
set_option maxHeartbeats 1000000
namespace L3
open PySem PySem.Spec PyProof.Rows L2 Mx So Gd
/-- a dict whose keys are tuples, none perhaps -/
def ceM (kvs : List (GK × Im)) : Ce := match kvs with
  | [] => .dk []
  | kvs => .mx kvs
theorem ceM_app {kvs : List (GK × Im)} {x : GK × Im} : ceM (kvs ++ [x]) = .mx (kvs ++ [x]) := by
  cases kvs <;> rfl
def kT' (l : List Key) : Im := .d (.tuple (l.map kD))
/-- from S4 to S5 nothing but p changes -/
def Sav (p : L) (S S' : Sto) : Prop := ∀ c, c ≠ p → S c ≠ none → S' c = S c
theorem Sav.of {p : L} {S S' : Sto} (l : Lays S S') : Sav p S S' := fun c _ h => l.ex c h
theorem Sav.at_ {p c : L} {S S' : Sto} {e : Ce} (x : Sav p S S') (h : S c = some e) (n : c ≠ p) : S' c = some e := (x c n (by rw [h]; exact fun z => nomatch z)).trans h
/-- {x: v(x) for x in xs if t(x)}: the keys are the items -/
theorem dcM_go {wi : TI3} {j : Nat} {tt : TT3} {tk tv : TE3} {vs : List Nat} {σ : St3} {S : Sto} {Q : K3} {xs : List (List Key)} {g : List Key → Bool} {val : List Key → Im → Sto → Prop}
    (hi : ∀ R : Wk → Sto → Prop, (∀ W S1, Lays S S1 → W.n = xs.length → (∀ i it, W.item i it → (xs.map kT')[i]? = some it) → (∀ S', Lays S1 S' → W.ok S') → R W S1) → wi σ S R) (hl : xs.length < sizeLine) (nd : xs.Nodup)
    (ht : ∀ l ∈ xs, ∀ (S' : Sto) (Q' : Bool → Sto → Prop), Lays S S' → Q' (g l) S' → tt ((wipe3 σ vs).set j (some (kT' l))) S' Q')
    (hk : ∀ l ∈ xs, ∀ (S' : Sto) (Q' : K3), Lays S S' → Q' (kT' l) S' → tk ((wipe3 σ vs).set j (some (kT' l))) S' Q')
    (hv : ∀ l ∈ xs, g l = true → ∀ (S' : Sto) (Q' : K3), Lays S S' → (∀ S4 it, Lays S' S4 → val l it S4 → Q' it S4) → tv ((wipe3 σ vs).set j (some (kT' l))) S' Q')
    (vm : ∀ l it S4 S5 p kvs, val l it S4 → S4 (.t p) = some (ceM kvs) → Sav (.t p) S4 S5 → val l it S5)
    (k : ∀ (S' : Sto) (p : Addr) (kvs : List (GK × Im)), Lays S S' → S (.t p) = none → S' (.t p) = some (ceM kvs) → kvs.map (·.1) = (xs.filter g).map .inr → (∀ q ∈ kvs, ∃ l, q.1 = .inr l ∧ val l q.2 S') → Q (.l (.t p)) S') : uDcM wi (.one j) tt tk tv vs σ S Q := by
  refine hi _ fun W S1 l1 hn hx hok => .inl fun p hp => ?_
  have hp0 := fresh_l hp l1
  refine ⟨fun n S' => ∃ kvs, S' (.t p) = some (ceM kvs) ∧ kvs.map (·.1) = ((xs.take n).filter g).map .inr ∧ (∀ q ∈ kvs, ∃ l, q.1 = .inr l ∧ val l q.2 S') ∧ Lays S1 S', ⟨[], put_same, rfl, fun q hq => (nomatch hq), (Lays.refl S1).new (.inl hp)⟩, fun n S' _ h => ?_, ?_, ?_⟩
  · obtain ⟨_, _, _, _, l⟩ := h
    exact hok S' l
  · rintro n it S' hlt hit ⟨kvs, h1, h2, h3, l⟩
    have hx' := hx n it hit
    rw [List.getElem?_map] at hx'
    obtain ⟨x, hx1, rfl⟩ := Option.map_eq_some_iff.mp hx'
    have mem := List.mem_of_getElem? hx1
    have step : (xs.take (n + 1)).filter g = (xs.take n).filter g ++ (if g x = true then [x] else []) := by
      rw [List.take_add_one, hx1, List.filter_append]
      cases e : g x with
      | true => simp [e]
      | false => simp [e]
    refine ⟨_, rfl, ht x mem S' _ (l1.trans l) ?_⟩
    cases e : g x with
    | false =>
      show (if false = true then _ else _)
      rw [if_neg (by decide)]
      refine ⟨kvs, h1, ?_, h3, l⟩
      rw [step, e, h2]
      simp
    | true =>
      show (if true = true then _ else _)
      rw [if_pos rfl]
      refine hk x mem S' _ (l1.trans l) (hv x mem e S' _ (l1.trans l) fun S4 it l4 v4 => ?_)
      have h14 := l4.at_ h1
      have lS4 := l.trans l4
      have hkeys : (kvs ++ [((.inr x : GK), it)]).map (·.1) = ((xs.take (n + 1)).filter g).map .inr := by
        rw [step, e, List.map_append, h2, List.map_append]
        rfl
      have sav : Sav (.t p) S4 (S4.put (.t p) (.mx (kvs ++ [(.inr x, it)]))) := fun c hc _ => put_ne hc
      have fin : (∃ kvs' : List (GK × Im), (S4.put (.t p) (.mx (kvs ++ [((.inr x : GK), it)]))) (.t p) = some (ceM kvs') ∧ kvs'.map (·.1) = ((xs.take (n + 1)).filter g).map .inr ∧ (∀ q ∈ kvs', ∃ l, q.1 = .inr l ∧ val l q.2 (S4.put (.t p) (.mx (kvs ++ [((.inr x : GK), it)])))) ∧
          Lays S1 (S4.put (.t p) (.mx (kvs ++ [((.inr x : GK), it)])))) := by
        refine ⟨kvs ++ [(.inr x, it)], ?_, hkeys, fun q hq => ?_, lS4.new (.inr hp)⟩
        · rw [put_same, ceM_app]
        · rcases List.mem_append.mp hq with hq | hq
          · obtain ⟨y, hy, vy⟩ := h3 q hq
            exact ⟨y, hy, vm _ _ _ _ _ _ (vm _ _ _ _ _ _ vy h1 (Sav.of l4)) h14 sav⟩
          · obtain rfl := List.mem_singleton.mp hq
            exact ⟨x, rfl, vm _ _ _ _ _ _ v4 h14 sav⟩
      refine ⟨x, rfl, ?_⟩
      cases kvs with
      | nil => exact .inl ⟨h14, fin⟩
      | cons q0 qs =>
        refine .inr ⟨q0 :: qs, h14, fun q hq eq => ?_, ?_, fin⟩
        · have m1 : (Sum.inr x : GK) ∈ ((xs.take n).filter g).map .inr := by
            rw [← h2, ← eq]
            exact List.mem_map.mpr ⟨q, hq, rfl⟩
          obtain ⟨y, hy, ey⟩ := List.mem_map.mp m1
          injection ey with ey
          subst ey
          have m2 := (List.mem_filter.mp hy).1
          obtain ⟨i, hi2⟩ := List.mem_iff_getElem?.mp m2
          rw [List.getElem?_take] at hi2
          by_cases c : i < n
          · rw [if_pos c] at hi2
            have := (List.getElem?_inj (List.getElem?_eq_some_iff.mp hi2).1 nd).mp (hi2.trans hx1.symm)
            omega
          · rw [if_neg c] at hi2
            cases hi2
        · have e1 := congrArg List.length h2
          rw [List.length_map, List.length_map] at e1
          have h5 := List.length_filter_le g (xs.take n)
          rw [List.length_take] at h5
          omega
  · rintro S' ⟨kvs, h1, h2, h3, l⟩
    rw [hn, List.take_length] at h2
    exact k S' p kvs (l1.trans l) hp0 h1 h2 h3
/-! ### fields of one's own, set one by one -/
section
variable {K : PySem.W.Frag} {St S : Sto} {c : L} {C : Addr} {fs : List (Str × Im)} {f : Str} {D : Ends3} {σ : St3} {uv : TE3} {v : Im}
/-- self.f = v -/
theorem st_val (h : S c = some (.ins C fs)) (hσ : σ[0]? = some (some (.l c))) (l : LaysB c St S) (cl : Cls K C) (na : NoAttr K C f) (few : fs.length < 1000) (hv : ∀ R : K3, R v S → uv σ S R)
    (k : ∀ S', LaysB c St S' → S' c = some (.ins C (putFI f v fs)) → (∀ d, d ≠ c → S' d = S d) → D.nx σ S') : uFldSet K f (uVar 0) uv D σ S :=
  hv _ ⟨_, hσ, c, C, fs, rfl, h, cl, na, few, k _ l.put put_same fun d hd => put_ne hd⟩
/-- self.f = a new thing -/
theorem st_new {e : Ce} (h : S c = some (.ins C fs)) (hσ : σ[0]? = some (some (.l c))) (l : LaysB c St S) (cl : Cls K C) (na : NoAttr K C f) (few : fs.length < 1000) (hv : ∀ R : K3, (New S fun c2 => R (.l c2) (S.put c2 e)) → uv σ S R)
    (k : ∀ S' p, LaysB c St S' → St (.t p) = none → (.t p : L) ≠ c → S' c = some (.ins C (putFI f (.l (.t p)) fs)) → S' (.t p) = some e → (∀ d, d ≠ c → S d ≠ none → S' d = S d) → D.nx σ S') : uFldSet K f (uVar 0) uv D σ S := by
  refine hv _ (.inl fun p hp => ?_)
  obtain ⟨h0, nc⟩ := fresh_b hp h l
  refine ⟨_, hσ, c, C, fs, rfl, (put_ne nc.symm).trans h, cl, na, few, k _ p (l.new hp).put h0 nc put_same ((put_ne nc).trans put_same) fun d hd hS => ?_⟩
  have nd : d ≠ .t p := by
    rintro rfl
    exact hS hp
  rw [put_ne hd, put_ne nd]
/-- self.f = what is made -/
theorem st_made {Good : Im → Sto → Prop} (h : S c = some (.ins C fs)) (hσ : σ[0]? = some (some (.l c))) (l : LaysB c St S) (cl : Cls K C) (na : NoAttr K C f) (few : fs.length < 1000) (hv : ∀ R : K3, (∀ it S1, Lays S S1 → Good it S1 → R it S1) → uv σ S R)
    (k : ∀ it S1 S', Lays S S1 → Good it S1 → LaysB c St S' → S' c = some (.ins C (putFI f it fs)) → (∀ d, d ≠ c → S' d = S1 d) → D.nx σ S') : uFldSet K f (uVar 0) uv D σ S :=
  hv _ fun it S1 l1 g => ⟨_, hσ, c, C, fs, rfl, l1.at_ h, cl, na, few, k it S1 _ l1 g (l.trans (LaysB.of l1)).put put_same fun d hd => put_ne hd⟩
end
/-! ### objects and their methods -/
section
variable {X : Cx} {Z : ZZ} {k : Nat} {C f : Addr} {fd : FuncData} {ps : List Str} {sp : Sp3} {E : XK} {x m : Str} {p pos apos : Pos} {e o : Expr} {es : List Expr} {tg : TA} {ug : TA3} {th : TE} {u : TE3} {pl : Sem Bool}
theorem e3_obj (tk : LT.Takes X Z.z) (ze : ZE Z E) (M : Mk X.K C f) (F : FnOk X.prog X.w X.K X.mg X.base (LT.CX X.prog X.w) k f fd ps (spOf X.prog X.w sp)) (hr : Room (k + 1) X.A) (hg : Gl X x) (hm : X.mg x = some (.ref C)) (hb : Binds X.K fd ps []) (ha : PA3 X Z (e :: es) tg ug)
    (hdb : (x == ("__debug__" : Str)) = false := by decide) (he : starEach (e :: es) X.env = (false, eval e X.env) :: starEach es X.env := by rfl) (hpl : (backTo pos (starEach es X.env)).any (·.1) = false := by rfl) :
    PE3 X Z (.Call (.Name x p) (e :: es) [] pos) (tMake C (spOf X.prog X.w sp) [] E tg) (uMake C sp Z.z3 ug) :=
  e3_make ze (pe_make M F hr hg hm hb .nil (pass_of tk ze) ha.pe hdb he hpl) ha.up
theorem e3_mth (tk : LT.Takes X Z.z) (ze : ZE Z E) (c : Cls X.K C) (hm : Meth X.K C m f) (F : FnOk X.prog X.w X.K X.mg X.base (LT.CX X.prog X.w) k f fd ps (spOf X.prog X.w sp)) (hr : Room k X.A) (hb : Binds X.K fd ps []) (ho : PE3 X Z o th u) (ha : PA3 X Z (e :: es) tg ug)
    (hst : starEach (e :: es) X.env = (false, eval e X.env) :: starEach es X.env := by rfl) (hpl : (backTo pos (starEach es X.env)).any (·.1) = false := by rfl)
    (ht : eval (.Call (.Attribute o m apos) (e :: es) [] pos) X.env = (do
      let v ← eval o X.env
      standAt apos.atName
      let (g, h) ← holding [v] (getMethod v m pl)
      callWith pos g h (backTo pos (starEach (e :: es) X.env)) (backToKw pos (keywordEach [] X.env))) := by rfl) :
    PE3 X Z (.Call (.Attribute o m apos) (e :: es) [] pos) (tMeth C m (spOf X.prog X.w sp) [] E th tg) (uMeth C m sp Z.z3 u ug) :=
  e3_meth ze (pe_meth (pl := pl) ho.pe c hm F hr hb .nil (pass_of tk ze) ha.pe hst hpl ht) ho.up ha.up
theorem e3_mth0 (tk : LT.Takes X Z.z) (ze : ZE Z E) (c : Cls X.K C) (hm : Meth X.K C m f) (F : FnOk X.prog X.w X.K X.mg X.base (LT.CX X.prog X.w) k f fd ps (spOf X.prog X.w sp)) (hr : Room k X.A) (hb : Binds X.K fd ps []) (ho : PE3 X Z o th u)
    (ht : eval (.Call (.Attribute o m apos) [] [] pos) X.env = (do
      let v ← eval o X.env
      standAt apos.atName
      let (g, h) ← holding [v] (getMethod v m pl)
      callWith pos g h (backTo pos (starEach [] X.env)) (backToKw pos (keywordEach [] X.env))) := by rfl) :
    PE3 X Z (.Call (.Attribute o m apos) [] [] pos) (tMeth C m (spOf X.prog X.w sp) [] E th tNil) (uMeth C m sp Z.z3 u uNil) :=
  e3_meth ze (pe_meth0 (pl := pl) ho.pe c hm F hr hb .nil (pass_of tk ze) ht) ho.up upa_nil
end
end L3
end
section
set_option Elab.async false
set_option linter.all false
set_option maxRecDepth 100000
set_option maxHeartbeats 1000000
/-! How the objects of the network are made. -/
namespace Pg
open PySem PySem.Spec PyProof.Rows L2 Mx So L3 St Mc
/-! ### nodes as keys -/
def swK : List Key := [.inr "switch"]
def acqK (i : Nat) : List Key := [.inr "acquirer", .inl (i : Int)]
def issK (j : Nat) : List Key := [.inr "issuer", .inl (j : Int)]
def nodesK (na ni : Nat) : List (List Key) := swK :: ((List.range na).map acqK ++ (List.range ni).map issK)
theorem nodes_kt {na ni : Nat} : (nodesD na ni).map Im.d = (nodesK na ni).map kT' := by
  unfold nodesD nodesK
  rw [List.map_cons, List.map_cons, List.map_append, List.map_append, List.map_map, List.map_map, List.map_map, List.map_map]
  rfl
theorem nodes_nd {na ni : Nat} (h1 : na ≤ 2) (h2 : ni ≤ 2) : (nodesK na ni).Nodup := by
  match na, ni, h1, h2 with
  | 0, 0, _, _ => decide +kernel
  | 0, 1, _, _ => decide +kernel
  | 0, 2, _, _ => decide +kernel
  | 1, 0, _, _ => decide +kernel
  | 1, 1, _, _ => decide +kernel
  | 1, 2, _, _ => decide +kernel
  | 2, 0, _, _ => decide +kernel
  | 2, 1, _, _ => decide +kernel
  | 2, 2, _, _ => decide +kernel
theorem node_cases {na ni : Nat} {l : List Key} (h : l ∈ nodesK na ni) : l = swK ∨ (∃ i, i < na ∧ l = acqK i) ∨ ∃ j, j < ni ∧ l = issK j := by
  rcases List.mem_cons.mp h with h | h
  · exact .inl h
  · rcases List.mem_append.mp h with h | h
    · obtain ⟨i, hi, rfl⟩ := List.mem_map.mp h
      exact .inr (.inl ⟨i, List.mem_range.mp hi, rfl⟩)
    · obtain ⟨j, hj, rfl⟩ := List.mem_map.mp h
      exact .inr (.inr ⟨j, List.mem_range.mp hj, rfl⟩)
theorem sh_pair {x : Str} {i : Int} (h : PyData.strOk x = true) : SeqAt.shaped (.tuple [.str x, .int i]) = true := by
  unfold SeqAt.shaped
  simp [PyData.canLay0, PyData.canLayAll0, PyData.depth, PyData.depthAll, h]
theorem ok_acqS : PyData.strOk "acquirer" = true := by decide +kernel
theorem ok_issS : PyData.strOk "issuer" = true := by decide +kernel
theorem sh_node {na ni : Nat} {l : List Key} (h : l ∈ nodesK na ni) : SeqAt.shaped (.tuple (l.map kD)) = true := by
  rcases node_cases h with rfl | ⟨i, _, rfl⟩ | ⟨j, _, rfl⟩
  · exact sh_sw
  · exact sh_pair ok_acqS
  · exact sh_pair ok_issS
def isSw (l : List Key) : Bool := decide (l = swK)
theorem eqv_node {na ni : Nat} {l : List Key} (h : l ∈ nodesK na ni) : PyData.eqv (.tuple (l.map kD)) swD = isSw l := by
  rcases node_cases h with rfl | ⟨i, _, rfl⟩ | ⟨j, _, rfl⟩
  · decide +kernel
  · rfl
  · rfl
theorem nodes_len {na ni : Nat} (h1 : na ≤ 2) (h2 : ni ≤ 2) : (nodesK na ni).length < sizeLine := by
  rw [sizeLine_eq]
  unfold nodesK
  rw [List.length_cons, List.length_append, List.length_map, List.length_map, List.length_range, List.length_range]
  omega
section
variable {P : Program} {w : World} {K : PySem.W.Frag} {mg : Str → Option Value} {base : Heap}
/-- what goes over the nodes of a setup -/
theorem walk_nodes {b : Addr} {ua : TA3} {σ : St3} {S : Sto} {sd : PyData} {is as : List PyData} {sh fe : PyData} (st : StD sd is as sh fe) (hs : S .swl = some (.sw b)) (hua : ∀ R : List Im → Sto → Prop, R [.d sd] S → ua σ S R) :
    ∀ R : Wk → Sto → Prop, (∀ W S1, Lays S S1 → W.n = (nodesK as.length is.length).length → (∀ i it, W.item i it → ((nodesK as.length is.length).map kT')[i]? = some it) → (∀ S', Lays S1 S' → W.ok S') → R W S1) → wL (uCall (spNodes b) ua) σ S R := by
  intro R hR
  refine hua _ ⟨_, is, as, sh, fe, rfl, st, hs, fun S1 p l f h => ⟨_, _, rfl, h, ?_⟩⟩
  refine hR _ S1 l ?_ ?_ fun S' l' => l'.at_ h
  · rw [nodes_kt, List.length_map]
  · intro i it e
    rw [← nodes_kt]
    exact e
/-! ### the switch -/
def switchF (e sh fe : Im) (pf pr pc pg py po : Addr) : List (Str × Im) := [("entries", e), ("share", sh), ("fee", fe), ("files", .l (.t pf)), ("rows", .l (.t pr)), ("claims", .l (.t pc)), ("fights", .l (.t pg)), ("cycles", .l (.t py)), ("owed", .l (.t po))]
abbrev switchN : List Str := ["entries", "share", "fee", "files", "rows", "claims", "fights", "cycles", "owed"]
abbrev sSwitch : Stmt := (inClass (top 45) 0)
theorem scSwitch : FnScope ["self", "entries", "setup", "house"] ["self", "entries", "setup"] (defScope sSwitch) := ⟨rfl, rfl, rfl, by decide +kernel, rfl, by decide +kernel, by decide +kernel⟩
/-- a switch as it is at first -/
def Switch0 (S : Sto) (c : L) (C : Addr) : Prop := ∃ e sh fe pf pr pc pg py po, S c = some (.ins C (switchF e sh fe pf pr pc pg py po)) ∧ S (.t pf) = some (.dk []) ∧ S (.t pc) = some (.dk []) ∧ S (.t pg) = some (.dk []) ∧ S (.t py) = some (.lst [])
def spSwitch (K : PySem.W.Frag) (b : Addr) : Sp3 := fun its S Q _ => ∃ c C e sd is as sh fe, its = [.l c, e, .d sd] ∧ StD sd is as sh fe ∧ S .swl = some (.sw b) ∧ S c = some (.ins C []) ∧ Oc K C switchN ∧ ∀ S', LaysB c S S' → Switch0 S' c C → Q (.d .none) S'
theorem ok_switch {f fK fN CK b : Addr} {fd fdK fdN : FuncData} (F : Fun K "__init__" "Switch.__init__" sSwitch f fd)
    (GK : FnOk P w K mg base (LT.CX P w) 1 fK fdK ["self", "entries"] (spOf P w (spKeep K))) (bK : Binds K fdK ["self", "entries"] []) (dK : Df K mg "Keeper" CK "__init__" fK)
    (GN : FnOk P w K mg base (LT.CX P w) 2 fN fdN ["setup"] (spOf P w (spNodes b))) (bN : Binds K fdN ["setup"] []) (mN : mg "nodes_of" = some (.ref fN)) (kN : PySem.W.keepIn K (.ref fN) = true) (mS : mg "SWITCH" = some (.ref b)) :
    FnOk P w K mg base (LT.CX P w) 3 f fd ["self", "entries", "setup"] (spOf P w (spSwitch K b)) := by
  refine ok3 F scSwitch (fun its St Q E h => ?_) (fun cdv A outer s H E E3 hr => ?_)
  · obtain ⟨c, C, e, sd, is, as, sh, fe, rfl, _⟩ := h
    rfl
  have hr1 : Room 1 _ := hr.mono (by decide)
  refine ⟨_, ss_cons (s3_expr (e3_clsfn (E := E) (LT.takes_of rfl rfl rfl rfl) (fun _ _ _ _ => Iff.rfl) rfl dK.mg_ dK.rd dK.at_ dK.kp GK hr1 bK (a3_cons (v3 0) (a3_cons (v3 1) a3_nil))))
    (ss_cons (s3_fld (v3 0) (e3_ixT (v3 2) e3_int (by intro _ _; rfl)) (by rfl)) (ss_cons (s3_fld (v3 0) (e3_ixT (v3 2) e3_int (by intro _ _; rfl)) (by rfl))
    (ss_cons (s3_fld (v3 0) e3_dnewK (by rfl)) (ss_cons (s3_fld (v3 0) e3_dnewK (by rfl)) (ss_cons (s3_fld (v3 0) e3_dnewK (by rfl)) (ss_cons (s3_fld (v3 0) e3_dnewK (by rfl)) (ss_cons (s3_fld (v3 0) (e3_lst a3_nil) (by rfl))
    (ss_one (s3_fld (v3 0) (e3_dcM (own := [("house", 3)]) (g := .one 3) (Nat.lt_of_le_of_lt (Nat.le_add_right _ _) hr.units) rfl scSwitch.nd (i3_list (e3_call GN hr rfl mN kN bN (a3_cons (v3 2) a3_nil))) (blkOk_by (N := ["self", "entries", "setup", "house"]) (sc := defScope sSwitch) (by decide +kernel)) (fun j hj => hj)
      (fun _ _ _ _ _ => b3_one (i := 3) scSwitch.nd rfl (Or.inl rfl)) (fun _ _ _ _ _ => ts3_one (by exact t3_cmp (op_neD hr.units) up_neD (v3 3) (e3_sw (by rfl) mS) (nomark _))) (fun _ _ _ _ _ => by exact v3 3) (fun _ _ _ _ _ => e3_int)) (by rfl)))))))))), ?_⟩
  rintro its St Q ⟨c, C, e, sd, is, as, sh, fe, rfl, ⟨rfl, hi, ha⟩, hs, hc, O, q⟩
  have ncs : (Loc.swl : L) ≠ c := by
    rintro rfl
    rw [hs] at hc
    cases hc
  refine ⟨_, rfl, _, rfl, c, C, [], e, rfl, hc, O.cl, O.at_ 0, by decide, ?_⟩
  have l0 : LaysB c St (St.put c (.ins C (putFI "entries" e []))) := (LaysB.refl c St).put
  try dsimp only [uSeq, uDrop]
  refine st_val put_same rfl l0 O.cl (O.at_ 1) (by show 1 < 1000; decide) (fun R r => ⟨_, rfl, _, 2, sh, rfl, rfl, rfl, r⟩) fun S1 l1 h1 k1 => ?_
  try dsimp only [uSeq, uDrop]
  refine st_val h1 rfl l1 O.cl (O.at_ 2) (by show 2 < 1000; decide) (fun R r => ⟨_, rfl, _, 3, fe, rfl, rfl, rfl, r⟩) fun S2 l2 h2 k2 => ?_
  try dsimp only [uSeq, uDrop]
  refine st_new h2 rfl l2 O.cl (O.at_ 3) (by show 3 < 1000; decide) (fun R r => r) fun S3 pf l3 f3 n3 h3 e3 k3 => ?_
  try dsimp only [uSeq, uDrop]
  refine st_new h3 rfl l3 O.cl (O.at_ 4) (by show 4 < 1000; decide) (fun R r => r) fun S4 pr l4 f4 n4 h4 e4 k4 => ?_
  try dsimp only [uSeq, uDrop]
  refine st_new h4 rfl l4 O.cl (O.at_ 5) (by show 5 < 1000; decide) (fun R r => r) fun S5 pc l5 f5 n5 h5 e5 k5 => ?_
  try dsimp only [uSeq, uDrop]
  refine st_new h5 rfl l5 O.cl (O.at_ 6) (by show 6 < 1000; decide) (fun R r => r) fun S6 pg l6 f6 n6 h6 e6 k6 => ?_
  try dsimp only [uSeq, uDrop]
  refine st_new (e := .lst []) h6 rfl l6 O.cl (O.at_ 7) (by show 7 < 1000; decide) (fun R r => ⟨Nat.zero_le _, r⟩) fun S7 py l7 f7 n7 h7 e7 k7 => ?_
  have at7 : ∀ {d : L} {x : Ce}, S3 d = some x → d ≠ c → S7 d = some x := by
    intro d x hd nd
    have q4 := (k4 d nd (by rw [hd]; exact fun z => nomatch z)).trans hd
    have q5 := (k5 d nd (by rw [q4]; exact fun z => nomatch z)).trans q4
    have q6 := (k6 d nd (by rw [q5]; exact fun z => nomatch z)).trans q5
    exact (k7 d nd (by rw [q6]; exact fun z => nomatch z)).trans q6
  have e5' : S7 (.t pc) = some (.dk []) := by
    have q6 := (k6 _ n5 (by rw [e5]; exact fun z => nomatch z)).trans e5
    exact (k7 _ n5 (by rw [q6]; exact fun z => nomatch z)).trans q6
  have e6' : S7 (.t pg) = some (.dk []) := (k7 _ n6 (by rw [e6]; exact fun z => nomatch z)).trans e6
  have hs7 : S7 .swl = some (.sw b) := l7.at_ hs ncs
  try dsimp only [uSeq, uDrop]
  refine st_made (Good := fun it _ => ∃ po, it = .l (.t po)) h7 rfl l7 O.cl (O.at_ 8) (by show 8 < 1000; decide) (fun R r => ?_) fun it S8 S9 l8 ⟨po, eo⟩ l9 h9 k9 => ?_
  · dsimp only [Blk.any]
    refine dcM_go (g := fun l => !isSw l) (val := fun _ _ _ => True) (walk_nodes ⟨rfl, hi, ha⟩ hs7 fun R r => ⟨_, rfl, r⟩) (nodes_len ha hi) (nodes_nd ha hi) (fun l hl S' Q' lS q => ?_) (fun l hl S' Q' lS q => ⟨_, rfl, q⟩) (fun l hl _ S' Q' lS kq => kq S' _ (Lays.refl S') trivial) (fun _ _ _ _ _ _ _ _ _ => trivial)
      (fun S' p kvs lS f h _ _ => r _ S' lS ⟨p, rfl⟩)
    refine ⟨_, rfl, lS.at_ hs7, .tuple (l.map kD), swD, rfl, rfl, sh_node hl, sh_sw, _, rfl, ?_⟩
    have e : (if true = true then !PyData.eqv (.tuple (l.map kD)) swD else PyData.eqv (.tuple (l.map kD)) swD) = !isSw l := by
      rw [if_pos rfl, eqv_node hl]
    rw [e]
    exact q
  · subst eo
    refine q S9 l9 ⟨e, .d sh, .d fe, pf, pr, pc, pg, py, po, h9, ?_, ?_, ?_, ?_⟩
    · rw [k9 _ n3]
      exact l8.at_ (at7 e3 n3)
    · rw [k9 _ n5]
      exact l8.at_ e5'
    · rw [k9 _ n6]
      exact l8.at_ e6'
    · rw [k9 _ n7]
      exact l8.at_ e7
end
end Pg
end
section
set_option Elab.async false
set_option linter.all false
set_option maxRecDepth 100000
set_option maxHeartbeats 1000000
/-! How the objects of the network are made: houses; the state of a node. -/
namespace Pg
open PySem PySem.Spec PyProof.Rows L2 Mx So L3 St Mc
section
variable {P : Program} {w : World} {K : PySem.W.Frag} {mg : Str → Option Value} {base : Heap}
abbrev acqN : List Str := ["entries", "share", "fee", "income", "clearing", "cycles", "index", "merchants", "purchases", "files"]
abbrev issN : List Str := ["entries", "share", "fee", "income", "clearing", "cycles", "balances", "held", "charges"]
theorem Oc.sub {C : Addr} {fs gs : List Str} (o : Oc K C fs) (h : ∀ g ∈ gs, g ∈ fs) : Oc K C gs := ⟨o.cl, fun g hg => o.na g (h g hg)⟩
def zeros (n : Nat) : List Im := List.replicate n (.d (.int 0))
theorem zeros_eq {n : Nat} : (List.replicate n [Im.d (.int 0)]).flatten = zeros n := by
  unfold zeros
  induction n with
  | zero => rfl
  | succ n ih =>
    rw [List.replicate_succ, List.flatten_cons, ih]
    rfl
abbrev sAcqI : Stmt := (inClass (top 38) 0)
theorem scAcqI : FnScope ["self", "entries", "index", "many", "share", "fee"] ["self", "entries", "index", "many", "share", "fee"] (defScope sAcqI) := ⟨rfl, rfl, rfl, by decide +kernel, rfl, by decide +kernel, by decide +kernel⟩
/-- an acquirer as it is at first -/
def Acq0 (S : Sto) (c : L) (C : Addr) (e ix sh fe : Im) (n : Nat) : Prop := ∃ py pm pp pf, S c = some (.ins C (houseF e sh fe py ++ ([("index", ix), ("merchants", .l (.t pm)), ("purchases", .l (.t pp)), ("files", .l (.t pf))] : List (Str × Im)))) ∧ S (.t py) = some (.dk []) ∧ S (.t pm) = some (.lst (zeros n)) ∧ S (.t pp) = some (.lst []) ∧ S (.t pf) = some (.lst [])
def spAcqI (K : PySem.W.Frag) : Sp3 := fun its S Q _ => ∃ (c : L) (C : Addr) (e ix sh fe : Im) (n : Nat), its = [.l c, e, ix, .d (.int n), sh, fe] ∧ n ≤ 3 ∧ S c = some (.ins C []) ∧ Oc K C acqN ∧ ∀ S', LaysB c S S' → Acq0 S' c C e ix sh fe n → Q (.d .none) S'
theorem ok_acqI {f fH CH : Addr} {fd fdH : FuncData} (F : Fun K "__init__" "Acquirer.__init__" sAcqI f fd)
    (GH : FnOk P w K mg base (LT.CX P w) 2 fH fdH ["self", "entries", "share", "fee"] (spOf P w (spHouse K))) (bH : Binds K fdH ["self", "entries", "share", "fee"] []) (dH : Df K mg "House" CH "__init__" fH) :
    FnOk P w K mg base (LT.CX P w) 3 f fd ["self", "entries", "index", "many", "share", "fee"] (spOf P w (spAcqI K)) := by
  refine ok3 F scAcqI (fun its St Q E h => ?_) (fun cdv A outer s H E E3 hr => ?_)
  · obtain ⟨c, C, e, ix, sh, fe, n, rfl, _⟩ := h
    rfl
  refine ⟨_, ss_cons (s3_expr (e3_clsfn (E := E) (LT.takes_of rfl rfl rfl rfl) (fun _ _ _ _ => Iff.rfl) rfl dH.mg_ dH.rd dH.at_ dH.kp GH hr bH (a3_cons (v3 0) (a3_cons (v3 1) (a3_cons (v3 4) (a3_cons (v3 5) a3_nil))))))
    (ss_cons (s3_fld (v3 0) (v3 2) (by rfl)) (ss_cons (s3_fld (v3 0) (e3_op op_rep up_rep (e3_lst (a3_cons e3_int a3_nil)) (v3 3)) (by rfl)) (ss_cons (s3_fld (v3 0) (e3_lst a3_nil) (by rfl)) (ss_one (s3_fld (v3 0) (e3_lst a3_nil) (by rfl)))))), ?_⟩
  rintro its St Q ⟨c, C, e, ix, sh, fe, n, rfl, hn, hc, O, q⟩
  refine ⟨_, rfl, _, rfl, _, rfl, _, rfl, c, C, e, sh, fe, rfl, hc, O.sub (by decide +kernel), fun S1 py l1 f1 h1 e1 => ?_⟩
  have ny : (.t py : L) ≠ c := ne_t f1 hc
  try dsimp only [uSeq, uDrop]
  refine st_val h1 rfl l1 O.cl (O.at_ 6) (by show 6 < 1000; decide) (fun R r => ⟨_, rfl, r⟩) fun S2 l2 h2 k2 => ?_
  have e2 : S2 (.t py) = some (.dk []) := (k2 _ ny).trans e1
  try dsimp only [uSeq, uDrop]
  refine st_made (Good := fun it S => ∃ p, it = .l (.t p) ∧ S (.t p) = some (.lst (zeros n)) ∧ S2 (.t p) = none) h2 rfl l2 O.cl (O.at_ 7) (by show 7 < 1000; decide) (fun R r => ?_) fun it S3 S4 l3 ⟨pm, em, e3, f3⟩ l4 h4 k4 => ?_
  · refine ⟨by show 1 ≤ sizeLine; decide, .inl fun p hp => ⟨_, rfl, .t p, (n : Int), _, rfl, rfl, put_same, by omega, by omega, ?_, .inl fun p2 hp2 => ?_⟩⟩
    · show 1 * _ ≤ _
      rw [sizeLine_eq]
      omega
    · have l := (Lays.refl S2).new (e := .lst [.d (.int 0)]) (.inl hp)
      have hp20 := fresh_l hp2 l
      refine r _ _ (l.new (.inr hp20)) ⟨p2, rfl, ?_, hp20⟩
      rw [put_same]
      show some (Ce.lst (List.replicate ((n : Int)).toNat [Im.d (.int 0)]).flatten) = _
      rw [zeros_eq]
      rfl
  subst em
  have nm : (.t pm : L) ≠ c := ne_t f3 h2
  have e4 : S4 (.t py) = some (.dk []) := (k4 _ ny).trans (l3.at_ e2)
  have m4 : S4 (.t pm) = some (.lst (zeros n)) := (k4 _ nm).trans e3
  try dsimp only [uSeq, uDrop]
  refine st_new (e := .lst []) h4 rfl l4 O.cl (O.at_ 8) (by show 8 < 1000; decide) (fun R r => ⟨Nat.zero_le _, r⟩) fun S5 pp l5 f5 n5 h5 e5 k5 => ?_
  try dsimp only [uSeq, uDrop]
  refine st_new (e := .lst []) h5 rfl l5 O.cl (O.at_ 9) (by show 9 < 1000; decide) (fun R r => ⟨Nat.zero_le _, r⟩) fun S6 pf l6 f6 n6 h6 e6 k6 => ?_
  have up : ∀ {d : L} {x : Ce}, S4 d = some x → d ≠ c → S6 d = some x := fun {d x} hd nd => by
    have q5 := (k5 d nd (by rw [hd]; exact fun z => nomatch z)).trans hd
    exact (k6 d nd (by rw [q5]; exact fun z => nomatch z)).trans q5
  exact q S6 l6 ⟨py, pm, pp, pf, h6, up e4 ny, up m4 nm, (k6 _ n5 (by rw [e5]; exact fun z => nomatch z)).trans e5, e6⟩
abbrev sIssI : Stmt := (inClass (top 41) 0)
theorem scIssI : FnScope ["self", "entries", "balances", "share", "fee"] ["self", "entries", "balances", "share", "fee"] (defScope sIssI) := ⟨rfl, rfl, rfl, by decide +kernel, rfl, by decide +kernel, by decide +kernel⟩
/-- an issuer as it is at first -/
def Iss0 (S : Sto) (c : L) (C : Addr) (e sh fe : Im) (bs : List PyData) : Prop := ∃ py pb ph pc, S c = some (.ins C (houseF e sh fe py ++ ([("balances", .l (.t pb)), ("held", .l (.t ph)), ("charges", .l (.t pc))] : List (Str × Im)))) ∧ S (.t py) = some (.dk []) ∧ S (.t pb) = some (.lst (bs.map .d)) ∧ S (.t ph) = some (.lst (zeros bs.length)) ∧ S (.t pc) = some (.dk [])
def spIssI (K : PySem.W.Frag) : Sp3 := fun its S Q _ => ∃ (c : L) (C : Addr) (e sh fe : Im) (bs : List PyData), its = [.l c, e, .d (.tuple bs), sh, fe] ∧ bs.length ≤ 3 ∧ S c = some (.ins C []) ∧ Oc K C issN ∧ ∀ S', LaysB c S S' → Iss0 S' c C e sh fe bs → Q (.d .none) S'
theorem ok_issI {f fH CH : Addr} {fd fdH : FuncData} (F : Fun K "__init__" "Issuer.__init__" sIssI f fd) (T : Txt mg) (ml : mg "list" = none)
    (GH : FnOk P w K mg base (LT.CX P w) 2 fH fdH ["self", "entries", "share", "fee"] (spOf P w (spHouse K))) (bH : Binds K fdH ["self", "entries", "share", "fee"] []) (dH : Df K mg "House" CH "__init__" fH) :
    FnOk P w K mg base (LT.CX P w) 3 f fd ["self", "entries", "balances", "share", "fee"] (spOf P w (spIssI K)) := by
  refine ok3 F scIssI (fun its St Q E h => ?_) (fun cdv A outer s H E E3 hr => ?_)
  · obtain ⟨c, C, e, sh, fe, bs, rfl, _⟩ := h
    rfl
  refine ⟨_, ss_cons (s3_expr (e3_clsfn (E := E) (LT.takes_of rfl rfl rfl rfl) (fun _ _ _ _ => Iff.rfl) rfl dH.mg_ dH.rd dH.at_ dH.kp GH hr bH (a3_cons (v3 0) (a3_cons (v3 1) (a3_cons (v3 3) (a3_cons (v3 4) a3_nil))))))
    (ss_cons (s3_fld (v3 0) (e3_listOf rfl ml (by decide +kernel) (a3_cons (v3 2) a3_nil)) (by rfl)) (ss_cons (s3_fld (v3 0) (e3_op op_rep up_rep (e3_lst (a3_cons e3_int a3_nil)) (e3_len rfl T.len PySem.boot_len (a3_cons (v3 2) a3_nil))) (by rfl)) (ss_one (s3_fld (v3 0) e3_dnewK (by rfl))))), ?_⟩
  rintro its St Q ⟨c, C, e, sh, fe, bs, rfl, hn, hc, O, q⟩
  refine ⟨_, rfl, _, rfl, _, rfl, _, rfl, c, C, e, sh, fe, rfl, hc, O.sub (by decide +kernel), fun S1 py l1 f1 h1 e1 => ?_⟩
  have ny : (.t py : L) ≠ c := ne_t f1 hc
  try dsimp only [uSeq, uDrop]
  refine st_new (e := .lst (bs.map .d)) h1 rfl l1 O.cl (O.at_ 6) (by show 6 < 1000; decide) (fun R r => ⟨_, rfl, _, _, rfl, .inr ⟨bs, rfl, rfl⟩, r⟩) fun S2 pb l2 f2 n2 h2 b2 k2 => ?_
  have e2 : S2 (.t py) = some (.dk []) := (k2 _ ny (by rw [e1]; exact fun z => nomatch z)).trans e1
  try dsimp only [uSeq, uDrop]
  refine st_made (Good := fun it S => ∃ p, it = .l (.t p) ∧ S (.t p) = some (.lst (zeros bs.length)) ∧ S2 (.t p) = none) h2 rfl l2 O.cl (O.at_ 7) (by show 7 < 1000; decide) (fun R r => ?_) fun it S3 S4 l3 ⟨pm, em, e3, f3⟩ l4 h4 k4 => ?_
  · refine ⟨by show 1 ≤ sizeLine; decide, .inl fun p hp => ⟨_, rfl, _, _, rfl, .inr ⟨bs, rfl, rfl⟩, .t p, (bs.length : Int), _, rfl, rfl, put_same, by omega, by omega, ?_, .inl fun p2 hp2 => ?_⟩⟩
    · show 1 * _ ≤ _
      rw [sizeLine_eq]
      omega
    · have l := (Lays.refl S2).new (e := .lst [.d (.int 0)]) (.inl hp)
      have hp20 := fresh_l hp2 l
      refine r _ _ (l.new (.inr hp20)) ⟨p2, rfl, ?_, hp20⟩
      rw [put_same]
      show some (Ce.lst (List.replicate ((bs.length : Int)).toNat [Im.d (.int 0)]).flatten) = _
      rw [zeros_eq]
      rfl
  subst em
  have nm : (.t pm : L) ≠ c := ne_t f3 h2
  have e4 : S4 (.t py) = some (.dk []) := (k4 _ ny).trans (l3.at_ e2)
  have b4 : S4 (.t pb) = some (.lst (bs.map .d)) := (k4 _ n2).trans (l3.at_ b2)
  have m4 : S4 (.t pm) = some (.lst (zeros bs.length)) := (k4 _ nm).trans e3
  try dsimp only [uSeq, uDrop]
  refine st_new h4 rfl l4 O.cl (O.at_ 8) (by show 8 < 1000; decide) (fun R r => r) fun S5 pc l5 f5 n5 h5 e5 k5 => ?_
  have up : ∀ {d : L} {x : Ce}, S4 d = some x → d ≠ c → S5 d = some x := fun {d x} hd nd => (k5 d nd (by rw [hd]; exact fun z => nomatch z)).trans hd
  exact q S5 l5 ⟨py, pb, pm, pc, h5, up e4 ny, up b4 n2, up m4 nm, e5⟩
end
end Pg
end
section
set_option Elab.async false
set_option linter.all false
set_option maxRecDepth 100000
set_option maxHeartbeats 1000000
/-! The state of a node from an empty journal; a network is made. -/
namespace Pg
open PySem PySem.Spec PyProof.Rows L2 Mx So L3 St Mc
/-- a setup that is let through -/
structure GoodS (sd : PyData) (is as : List PyData) (sh fe : PyData) : Prop where
  st : StD sd is as sh fe
  as_ : ∀ a ∈ as, ∃ n : Nat, n ≤ 3 ∧ a = .int n
  is_ : ∀ x ∈ is, ∃ bs, x = .tuple bs ∧ bs.length ≤ 3
theorem good_of {sd : PyData} (h : isSet sd = true) : ∃ is as sh fe, GoodS sd is as sh fe := by
  have tupl : ∀ {lo hi : Int} {d : PyData}, isTup lo hi d = true → ∃ ds, d = .tuple ds ∧ (ds.length : Int) ≤ hi := by
    intro lo hi d hd
    cases d with
    | tuple ds =>
      have h' : (decide (lo ≤ ds.length) && decide ((ds.length : Int) ≤ hi)) = true := hd
      rw [Bool.and_eq_true, decide_eq_true_iff, decide_eq_true_iff] at h'
      exact ⟨ds, rfl, h'.2⟩
    | _ => cases hd
  cases sd with
  | tuple ds =>
    match ds, h with
    | [i, a, s, f], h =>
      have h' : (isIss i && (isAcq a && (isNum 0 300 s && isFee s f))) = true := h
      rw [Bool.and_eq_true, Bool.and_eq_true] at h'
      obtain ⟨h1, h2, _⟩ := h'
      have h1' : (isTup 1 2 i && (items i).all isHold) = true := h1
      have h2' : (isTup 1 2 a && (items a).all (isNum 1 3)) = true := h2
      rw [Bool.and_eq_true] at h1' h2'
      obtain ⟨is, rfl, li⟩ := tupl h1'.1
      obtain ⟨as, rfl, la⟩ := tupl h2'.1
      refine ⟨is, as, s, f, ⟨rfl, by omega, by omega⟩, fun x hx => ?_, fun x hx => ?_⟩
      · have q := List.all_eq_true.mp h2'.2 x hx
        cases x with
        | int n =>
          have q' : (decide ((1 : Int) ≤ n) && decide (n ≤ 3)) = true := q
          rw [Bool.and_eq_true, decide_eq_true_iff, decide_eq_true_iff] at q'
          exact ⟨n.toNat, by omega, by congr 1; omega⟩
        | _ => cases q
      · have q := List.all_eq_true.mp h1'.2 x hx
        have q' : (isTup 1 3 x && (items x).all (isNum 0 1000000000)) = true := q
        rw [Bool.and_eq_true] at q'
        obtain ⟨bs, rfl, lb⟩ := tupl q'.1
        exact ⟨bs, rfl, by omega⟩
    | [], h => cases h
    | [_], h => cases h
    | [_, _], h => cases h
    | [_, _, _], h => cases h
    | _ :: _ :: _ :: _ :: _ :: _, h => cases h
  | _ => cases h
section
variable {P : Program} {w : World} {K : PySem.W.Frag} {mg : Str → Option Value} {base : Heap}
/-- the state of the node l, as it is at first -/
def St0 (CS CA CI : Addr) (l : List Key) (it : Im) (S : Sto) : Prop := ∃ p, it = .l (.t p) ∧ (l = swK → Switch0 S (.t p) CS) ∧ (∀ i, l = acqK i → ∃ e ix sh fe n, Acq0 S (.t p) CA e ix sh fe n) ∧ ∀ j, l = issK j → ∃ e sh fe bs, Iss0 S (.t p) CI e sh fe bs
abbrev sFirst : Stmt := top 50
theorem scFirst : FnScope ["setup", "node", "entries", "issuers", "acquirers", "share", "fee", "kind", "index"] ["setup", "node", "entries"] (defScope sFirst) := ⟨rfl, rfl, rfl, by decide +kernel, rfl, by decide +kernel, by decide +kernel⟩
def spFirst (b CS CA CI : Addr) : Sp3 := fun its S Q _ => ∃ sd l e is as sh fe, its = [.d sd, kT' l, e] ∧ GoodS sd is as sh fe ∧ S .swl = some (.sw b) ∧ l ∈ nodesK as.length is.length ∧ ∀ S' it, Lays S S' → St0 CS CA CI l it S' → Q it S'
theorem swk_acq {i : Nat} : acqK i ≠ swK := by
  intro h
  cases h
theorem swk_iss {i : Nat} : issK i ≠ swK := by
  intro h
  cases h
theorem acq_iss {i j : Nat} : acqK i ≠ issK j := by
  intro h
  injection h with h _
  injection h with h
  revert h
  decide
theorem ok_first {f fS fA fI b CS CA CI : Addr} {fd fdS fdA fdI : FuncData} (F : Fun K "_first_state" "_first_state" sFirst f fd)
    (GS : FnOk P w K mg base (LT.CX P w) 3 fS fdS ["self", "entries", "setup"] (spOf P w (spSwitch K b))) (bS : Binds K fdS ["self", "entries", "setup"] []) (MS : Mk K CS fS) (mS : mg "Switch" = some (.ref CS)) (oS : Oc K CS switchN)
    (GA : FnOk P w K mg base (LT.CX P w) 3 fA fdA ["self", "entries", "index", "many", "share", "fee"] (spOf P w (spAcqI K))) (bA : Binds K fdA ["self", "entries", "index", "many", "share", "fee"] []) (MA : Mk K CA fA) (mA : mg "Acquirer" = some (.ref CA)) (oA : Oc K CA acqN)
    (GI : FnOk P w K mg base (LT.CX P w) 3 fI fdI ["self", "entries", "balances", "share", "fee"] (spOf P w (spIssI K))) (bI : Binds K fdI ["self", "entries", "balances", "share", "fee"] []) (MI : Mk K CI fI) (mI : mg "Issuer" = some (.ref CI)) (oI : Oc K CI issN)
    (mW : mg "SWITCH" = some (.ref b)) : FnOk P w K mg base (LT.CX P w) 5 f fd ["setup", "node", "entries"] (spOf P w (spFirst b CS CA CI)) := by
  refine ok3 F scFirst (fun its St Q E h => ?_) (fun cdv A outer s H E E3 hr => ?_)
  · obtain ⟨sd, l, e, is, as, sh, fe, rfl, _⟩ := h
    rfl
  have tk : LT.Takes (cxOf (LT.CX P w) P w K mg base ["setup", "node", "entries", "issuers", "acquirers", "share", "fee", "kind", "index"] "_first_state" (defScope sFirst) f cdv A outer s H E) (zOf E E3).z := LT.takes_of rfl rfl rfl rfl
  have ze : ZE (zOf E E3) E := fun _ _ _ _ => Iff.rfl
  refine ⟨_, ss_cons (s3_asg (v3 0) (g3_tup (js := [3, 4, 5, 6]) rfl (gs3_cons scFirst.nd rfl (Or.inl rfl) (gs3_cons scFirst.nd rfl (Or.inl rfl) (gs3_cons scFirst.nd rfl (Or.inl rfl) (gs3_cons scFirst.nd rfl (Or.inl rfl) gs3_nil))))))
    (ss_cons (s3_if (t3_cmp (op_eqD hr.units) up_eqD (v3 1) (e3_sw rfl mW) (nomark _)) (ss_one (s3_ret (e3_obj tk ze MS GS hr rfl mS bS (a3_cons (v3 2) (a3_cons (v3 0) a3_nil))))) ss_nil)
    (ss_cons (s3_asg (v3 1) (g3_tup (js := [7, 8]) rfl (gs3_cons scFirst.nd rfl (Or.inl rfl) (gs3_cons scFirst.nd rfl (Or.inl rfl) gs3_nil))))
    (ss_cons (s3_if (t3_cmp op_eq up_eq (v3 7) e3_str (nomark _)) (ss_one (s3_ret (e3_obj tk ze MA GA hr rfl mA bA (a3_cons (v3 2) (a3_cons (v3 8) (a3_cons (e3_ixT (v3 4) (v3 8) (by intro _ _; rfl)) (a3_cons (v3 5) (a3_cons (v3 6) a3_nil)))))))) ss_nil)
    (ss_one (s3_ret (e3_obj tk ze MI GI hr rfl mI bI (a3_cons (v3 2) (a3_cons (e3_ixT (v3 3) (v3 8) (by intro _ _; rfl)) (a3_cons (v3 5) (a3_cons (v3 6) a3_nil)))))))))), ?_⟩
  rintro its St Q ⟨sd, l, e, is, as, sh, fe, rfl, g, hs, hl, q⟩
  obtain ⟨⟨rfl, hi, ha⟩, gA, gI⟩ := g
  refine ⟨_, rfl, _, rfl, rfl, ?_⟩
  refine ⟨_, rfl, hs, .tuple (l.map kD), swD, rfl, rfl, sh_node hl, sh_sw, _, rfl, ite3 (fun h => ?_) (fun h => ?_)⟩
  · have h' : isSw l = true := (eqv_node hl).symm.trans h
    have el : l = swK := of_decide_eq_true h'
    refine ⟨_, rfl, _, rfl, .inl fun p hp => ?_⟩
    refine ⟨.t p, CS, e, _, is, as, sh, fe, rfl, ⟨rfl, hi, ha⟩, ?_, put_same, oS, fun S' lb sw0 => ⟨rfl, ?_⟩⟩
    · rw [put_ne (by intro z; cases z)]
      exact hs
    · refine q S' _ (LaysB.lays hp lb) ⟨p, rfl, fun _ => sw0, fun i e2 => ?_, fun j e2 => ?_⟩
      · rw [el] at e2
        exact (swk_acq e2.symm).elim
      · rw [el] at e2
        exact (swk_iss e2.symm).elim
  · have h' : isSw l = false := (eqv_node hl).symm.trans h
    rcases node_cases hl with rfl | ⟨i, hi2, rfl⟩ | ⟨j, hj2, rfl⟩
    · cases h'
    · refine ⟨_, rfl, _, rfl, rfl, ?_⟩
      refine ⟨_, rfl, .str "acquirer", .str "acquirer", rfl, rfl, rfl, fun c hc => ⟨_, rfl, ?_⟩⟩
      have ec : c = true := hc.mpr rfl
      subst ec
      show (if true = true then _ else _)
      rw [if_pos rfl]
      obtain ⟨n, hn, en⟩ := gA as[i] (List.getElem_mem hi2)
      refine ⟨_, rfl, _, rfl, _, rfl, _, rfl, _, (i : Int), .int n, rfl, rfl, ?_, _, rfl, _, rfl, .inl fun p hp => ?_⟩
      · rw [atI_nat (List.getElem?_eq_getElem hi2), en]
      refine ⟨.t p, CA, e, _, .d sh, .d fe, n, rfl, hn, put_same, oA, fun S' lb a0 => ⟨rfl, ?_⟩⟩
      refine q S' _ (LaysB.lays hp lb) ⟨p, rfl, fun e2 => (swk_acq e2).elim, fun i e2 => ⟨_, _, _, _, _, a0⟩, fun j e2 => (acq_iss e2).elim⟩
    · refine ⟨_, rfl, _, rfl, rfl, ?_⟩
      refine ⟨_, rfl, .str "issuer", .str "acquirer", rfl, rfl, rfl, fun c hc => ⟨_, rfl, ?_⟩⟩
      have ec : c = false := by
        cases c with
        | false => rfl
        | true =>
          have z := hc.mp rfl
          injection z with z
          revert z
          decide
      subst ec
      show (if false = true then _ else _)
      rw [if_neg (by decide)]
      obtain ⟨bs, en, hn⟩ := gI is[j] (List.getElem_mem hj2)
      refine ⟨_, rfl, _, rfl, _, rfl, _, (j : Int), .tuple bs, rfl, rfl, ?_, _, rfl, _, rfl, .inl fun p hp => ?_⟩
      · rw [atI_nat (List.getElem?_eq_getElem hj2), en]
      refine ⟨.t p, CI, e, .d sh, .d fe, bs, rfl, hn, put_same, oI, fun S' lb a0 => ⟨rfl, ?_⟩⟩
      refine q S' _ (LaysB.lays hp lb) ⟨p, rfl, fun e2 => (swk_iss e2).elim, fun i e2 => (acq_iss e2.symm).elim, fun j e2 => ⟨_, _, _, _, a0⟩⟩
end
end Pg
end
section
set_option Elab.async false
set_option linter.all false
set_option maxRecDepth 100000
set_option maxHeartbeats 1000000
/-! The state of a node from an empty journal; a network is made; a state is built anew. -/
namespace Pg
open PySem PySem.Spec PyProof.Rows L2 Mx So L3 St Mc
section
variable {P : Program} {w : World} {K : PySem.W.Frag} {mg : Str → Option Value} {base : Heap}
abbrev sState : Stmt := top 49
theorem scState : FnScope ["setup", "node", "entries", "state", "entry"] ["setup", "node", "entries"] (defScope sState) := ⟨rfl, rfl, rfl, by decide +kernel, rfl, by decide +kernel, by decide +kernel⟩
/-- from a journal without entries -/
def spState (b CS CA CI : Addr) : Sp3 := fun its S Q _ => ∃ sd l e is as sh fe, its = [.d sd, kT' l, .l e] ∧ GoodS sd is as sh fe ∧ S .swl = some (.sw b) ∧ l ∈ nodesK as.length is.length ∧ S e = some (.lst []) ∧ ∀ S' it, Lays S S' → St0 CS CA CI l it S' → Q it S'
theorem st0_up {CS CA CI : Addr} {l : List Key} {it : Im} {S S' : Sto} (h : St0 CS CA CI l it S) (x : Lays S S') : St0 CS CA CI l it S' := by
  obtain ⟨p, e, h1, h2, h3⟩ := h
  refine ⟨p, e, fun q => ?_, fun i q => ?_, fun j q => ?_⟩
  · obtain ⟨a1, a2, a3, a4, a5, a6, a7, a8, a9, b1, b2, b3, b4, b5⟩ := h1 q
    exact ⟨a1, a2, a3, a4, a5, a6, a7, a8, a9, x.at_ b1, x.at_ b2, x.at_ b3, x.at_ b4, x.at_ b5⟩
  · obtain ⟨a1, a2, a3, a4, a5, a6, a7, a8, a9, b1, b2, b3, b4, b5⟩ := h2 i q
    exact ⟨a1, a2, a3, a4, a5, a6, a7, a8, a9, x.at_ b1, x.at_ b2, x.at_ b3, x.at_ b4, x.at_ b5⟩
  · obtain ⟨a1, a2, a3, a4, a5, a6, a7, a8, b1, b2, b3, b4, b5⟩ := h3 j q
    exact ⟨a1, a2, a3, a4, a5, a6, a7, a8, x.at_ b1, x.at_ b2, x.at_ b3, x.at_ b4, x.at_ b5⟩
theorem ok_state {f fF b CS CA CI : Addr} {fd fdF : FuncData} (F : Fun K "state_of" "state_of" sState f fd) (ml : mg "list" = none)
    (GF : FnOk P w K mg base (LT.CX P w) 5 fF fdF ["setup", "node", "entries"] (spOf P w (spFirst b CS CA CI))) (bF : Binds K fdF ["setup", "node", "entries"] []) (mF : mg "_first_state" = some (.ref fF)) (kF : PySem.W.keepIn K (.ref fF) = true) :
    FnOk P w K mg base (LT.CX P w) 6 f fd ["setup", "node", "entries"] (spOf P w (spState b CS CA CI)) := by
  refine ok3 F scState (fun its St Q E h => ?_) (fun cdv A outer s H E E3 hr => ?_)
  · obtain ⟨sd, l, e, is, as, sh, fe, rfl, _⟩ := h
    rfl
  refine ⟨_, ss_cons (s3_set (i := 3) scState.nd rfl (Or.inl rfl) (e3_call GF hr rfl mF kF bF (a3_cons (v3 0) (a3_cons (v3 1) (a3_cons (v3 2) a3_nil)))))
    (ss_cons (s3_for (passes_of rfl) rfl (i3_list (e3_listOf rfl ml (by decide +kernel) (a3_cons (v3 2) a3_nil))) (g3_name (i := 4) scState.nd rfl (Or.inl rfl)) (ss_one s3_never))
    (ss_one (s3_ret (v3 3)))), ?_⟩
  rintro its St Q ⟨sd, l, e, is, as, sh, fe, rfl, g, hs, hl, he, q⟩
  refine ⟨_, rfl, _, rfl, _, rfl, sd, l, .l e, is, as, sh, fe, rfl, g, hs, hl, fun S1 it l1 s1 => ?_⟩
  refine ⟨_, rfl, .l e, [], rfl, .inl ⟨e, rfl, l1.at_ he⟩, .inl fun p hp => ⟨_, _, rfl, put_same, ?_⟩⟩
  have l2 := (Lays.refl S1).new (e := .lst []) (.inl hp)
  refine ⟨fun _ σ S => σ[3]? = some (some it) ∧ S = S1.put (.t p) (.lst []), ⟨rfl, rfl⟩, fun _ σ S _ h => ?_, fun i it σ S h => absurd h (Nat.not_lt_zero i), fun σ S h => ?_⟩
  · rw [h.2]
    exact put_same
  · obtain ⟨h1, rfl⟩ := h
    exact ⟨it, h1, q _ it (l1.trans l2) (st0_up s1 l2)⟩
/-! ### told of a switch as it is at first -/
abbrev sTold : Stmt := (inClass (top 45) 7)
theorem scTold : FnScope ["self", "files", "cycles", "at", "cycle"] ["self"] (defScope sTold) := ⟨rfl, rfl, rfl, by decide +kernel, rfl, by decide +kernel, by decide +kernel⟩
def spTold (K : PySem.W.Frag) : Sp3 := fun its S Q _ => ∃ c C, its = [.l c] ∧ Switch0 S c C ∧ Oc K C switchN ∧ ∀ S', Lays S S' → Q (.d (.tuple [.tuple [], .tuple [], .tuple [], .tuple []])) S'
theorem lc_none {wi : TI3} {tg : Tgt} {tt : TT3} {te : TE3} {vs : List Nat} {σ : St3} {S : Sto} {Q : K3} (hi : ∀ R : Wk → Sto → Prop, (∀ W S1, Lays S S1 → W.n = 0 → (∀ S', Lays S1 S' → W.ok S') → R W S1) → wi σ S R)
    (k : ∀ S' p, Lays S S' → S (.t p) = none → S' (.t p) = some (.lst []) → Q (.l (.t p)) S') : uLc wi tg tt te vs σ S Q := by
  refine hi _ fun W S1 l1 hn hok => .inl fun p hp => ?_
  have l2 := (Lays.refl S1).new (e := .lst []) (.inl hp)
  refine ⟨fun _ S' => S' = S1.put (.t p) (.lst []), rfl, fun _ S' _ h => ?_, fun i it S' h => ?_, fun S' h => ?_⟩
  · rw [h]
    exact hok _ l2
  · rw [hn] at h
    exact absurd h (Nat.not_lt_zero i)
  · rw [h]
    exact k _ p (l1.trans l2) (fresh_l hp l1) put_same
theorem ok_told {f : Addr} {fd : FuncData} (F : Fun K "told" "Switch.told" sTold f fd) (msr : mg "sorted" = none) (mt : mg "tuple" = none) : FnOk P w K mg base (LT.CX P w) 1 f fd ["self"] (spOf P w (spTold K)) := by
  refine ok3 F scTold (fun its St Q E h => ?_) (fun cdv A outer s H E E3 hr => ?_)
  · obtain ⟨c, C, rfl, _⟩ := h
    rfl
  refine ⟨_, ss_cons (s3_setLc (i := 1) (own := [("at", 3)]) (g := .one 3) rfl scTold.nd rfl rfl (sw_true rfl rfl rfl (by decide +kernel)) (i3_list (e3_callB (call_srt0 rfl) up_srt0 rfl msr (by decide +kernel) (a3_cons (e3_fld (v3 0)) a3_nil))) (blkOk_by (N := ["self", "files", "cycles", "at", "cycle"]) (sc := defScope sTold) (by decide +kernel)) (fun j hj => hj)
      (fun _ _ _ _ _ => b3_one (i := 3) scTold.nd rfl (Or.inl rfl)) (fun _ _ _ _ _ => ts3_nil) (fun _ _ _ _ _ => e3_never))
    (ss_cons (s3_setLc (i := 2) (own := [("cycle", 4)]) (g := .one 4) rfl scTold.nd rfl rfl (sw_true rfl rfl rfl (by decide +kernel)) (i3_list (e3_fld (v3 0))) (blkOk_by (N := ["self", "files", "cycles", "at", "cycle"]) (sc := defScope sTold) (by decide +kernel)) (fun j hj => hj)
      (fun _ _ _ _ _ => b3_one (i := 4) scTold.nd rfl (Or.inl rfl)) (fun _ _ _ _ _ => ts3_nil) (fun _ _ _ _ _ => e3_never))
    (ss_one (s3_ret (e3_tup (a3_cons (e3_tupOf rfl mt (by decide +kernel) (a3_cons (v3 1) a3_nil)) (a3_cons (e3_tupOf rfl mt (by decide +kernel) (a3_cons (e3_callB (call_srt0 rfl) up_srt0 rfl msr (by decide +kernel) (a3_cons (e3_fld (v3 0)) a3_nil)) a3_nil))
      (a3_cons (e3_tupOf rfl mt (by decide +kernel) (a3_cons (e3_callB (call_srt0 rfl) up_srt0 rfl msr (by decide +kernel) (a3_cons (e3_fld (v3 0)) a3_nil)) a3_nil)) (a3_cons (e3_tupOf rfl mt (by decide +kernel) (a3_cons (v3 2) a3_nil)) a3_nil)))))))), ?_⟩
  rintro its St Q ⟨c, C, rfl, ⟨e, sh, fe, pf, pr, pc, pg, py, po, hc, hf, hcl, hfi, hcy⟩, O, q⟩
  dsimp only [uSeq, uAsg, Blk.any]
  refine lc_none (fun R r => ⟨_, rfl, c, C, _, _, rfl, hc, O.cl, O.at_ 3, rfl, .t pf, rfl, hf, .inl fun p hp => ⟨_, _, rfl, put_same, r _ _ ((Lays.refl St).new (.inl hp)) rfl fun S' l' => l'.at_ put_same⟩⟩) fun S1 p1 l1 f1 h1 => ?_
  dsimp only [uSeq, uAsg, kName, Blk.any]
  refine lc_none (fun R r => ⟨_, rfl, c, C, _, _, rfl, l1.at_ hc, O.cl, O.at_ 7, rfl, _, _, rfl, l1.at_ hcy, r _ _ (Lays.refl S1) rfl fun S' l' => l'.at_ (l1.at_ hcy)⟩) fun S2 p2 l2 f2 h2 => ?_
  have l12 := l1.trans l2
  refine ⟨_, rfl, _, rfl, .inl ⟨_, [], [], rfl, l2.at_ h1, rfl, ?_⟩⟩
  refine ⟨_, rfl, c, C, _, _, rfl, l12.at_ hc, O.cl, O.at_ 5, rfl, .t pc, rfl, l12.at_ hcl, .inl fun p3 hp3 => ⟨_, rfl, .inl ⟨_, [], [], rfl, put_same, rfl, ?_⟩⟩⟩
  have l3 := l12.new (e := .lst []) (.inl hp3)
  refine ⟨_, rfl, c, C, _, _, rfl, l3.at_ hc, O.cl, O.at_ 6, rfl, .t pg, rfl, l3.at_ hfi, .inl fun p4 hp4 => ⟨_, rfl, .inl ⟨_, [], [], rfl, put_same, rfl, ?_⟩⟩⟩
  have l4 := l3.new (e := .lst []) (.inl hp4)
  have h24 : ∀ {S4 : Sto}, S4 = (S2.put (.t p3) (.lst [])).put (.t p4) (.lst []) → S4 (.t p2) = some (.lst []) := by
    rintro _ rfl
    by_cases e1 : p2 = p4
    · subst e1
      exact put_same
    · rw [put_ne (fun z => e1 (by injection z))]
      by_cases e2 : p2 = p3
      · subst e2
        exact put_same
      · rw [put_ne (fun z => e2 (by injection z))]
        exact h2
  refine ⟨_, rfl, _, rfl, .inl ⟨_, [], [], rfl, h24 rfl, rfl, ?_⟩⟩
  exact ⟨_, rfl, by show 4 ≤ sizeLine; decide, q _ l4⟩
end
end Pg
end
section
set_option Elab.async false
set_option linter.all false
set_option maxRecDepth 100000
set_option maxHeartbeats 1000000
/-! A state is built anew; a network is made; a journal is told. -/
namespace Pg
open PySem PySem.Spec PyProof.Rows L2 Mx So L3 St Mc
/-- an error of the program -/
structure Exf (K : PySem.W.Frag) (mg : Str → Option Value) (x : Str) (c : Addr) : Prop where
  q : PySem.W.excIn K c [.type "ValueError", .type "Exception", .type "BaseException", .type "object"] "ValueError.__new__" = true
  m : mg x = some (.ref c)
  k : PySem.W.keepIn K (.ref c) = true
  b1 : PySem.W.subIn K (.ref c) (.type "BaseException") = some true
  b2 : PySem.W.typeIn K (.ref c) = some (.type "type")
section
variable {P : Program} {w : World} {K : PySem.W.Frag} {mg : Str → Option Value} {base : Heap}
abbrev sReb : Stmt := top 48
theorem scReb : FnScope ["setup", "node", "journal"] ["setup", "node", "journal"] (defScope sReb) := ⟨rfl, rfl, rfl, by decide +kernel, rfl, by decide +kernel, by decide +kernel⟩
def spReb (b cB cN : Addr) : Sp3 := fun its S Q E => ∃ (sd nd : PyData) (j : L), its = [.d sd, .d nd, .l j] ∧ S .swl = some (.sw b) ∧ S j = some (.lst []) ∧ SeqAt.shaped nd = true ∧ (nd = swD ∨ ∀ na ni, isNode na ni nd = false) ∧
  (isSet sd = false → ∀ S', Lays S S' → E (.ref cB) S') ∧ (isSet sd = true → nd ≠ swD → ∀ S', Lays S S' → E (.ref cN) S') ∧ (isSet sd = true → nd = swD → ∀ S' d, Lays S S' → Q (.d d) S')
theorem node_sw {na ni : Nat} : isNode na ni swD = true := by
  show PyData.eqv swD swD = true
  decide +kernel
theorem ok_reb {f fC fN fS fT b cB cN CS CA CI : Addr} {fd fdC fdN fdS fdT : FuncData} (F : Fun K "rebuilt" "rebuilt" sReb f fd) (ml : mg "list" = none)
    (GC : FnOk P w K mg base (LT.CX P w) 5 fC fdC ["setup"] (spOf P w (spCheck cB))) (bC : Binds K fdC ["setup"] []) (mC : mg "check_setup" = some (.ref fC)) (kC : PySem.W.keepIn K (.ref fC) = true)
    (GN : FnOk P w K mg base (LT.CX P w) 3 fN fdN ["setup", "node"] (spOf P w (spNode b))) (bN : Binds K fdN ["setup", "node"] []) (mN : mg "is_node" = some (.ref fN)) (kN : PySem.W.keepIn K (.ref fN) = true)
    (GS : FnOk P w K mg base (LT.CX P w) 6 fS fdS ["setup", "node", "entries"] (spOf P w (spState b CS CA CI))) (bS : Binds K fdS ["setup", "node", "entries"] []) (mS : mg "state_of" = some (.ref fS)) (kS : PySem.W.keepIn K (.ref fS) = true)
    (GT : FnOk P w K mg base (LT.CX P w) 1 fT fdT ["self"] (spOf P w (spTold K))) (bT : Binds K fdT ["self"] []) (oS : Oc K CS switchN) (hT : Meth K CS "told" fT) (XN : Exf K mg "NoSuch" cN) :
    FnOk P w K mg base (LT.CX P w) 7 f fd ["setup", "node", "journal"] (spOf P w (spReb b cB cN)) := by
  refine ok3 F scReb (fun its St Q E h => ?_) (fun cdv A outer s H E E3 hr => ?_)
  · obtain ⟨sd, nd, j, rfl, _⟩ := h
    rfl
  have hr1 : Room 1 _ := hr.mono (by decide)
  have hr3 : Room 3 _ := hr.mono (by decide)
  have hr5 : Room 5 _ := hr.mono (by decide)
  have tk : LT.Takes (cxOf (LT.CX P w) P w K mg base ["setup", "node", "journal"] "rebuilt" (defScope sReb) f cdv A outer s H E) (zOf E E3).z := LT.takes_of rfl rfl rfl rfl
  have ze : ZE (zOf E E3) E := fun _ _ _ _ => Iff.rfl
  refine ⟨_, ss_cons (s3_expr (e3_callX tk GC hr5 rfl mC kC bC (a3_cons (v3 0) a3_nil)))
    (ss_cons (s3_if (t3_not (t3_val (e3_call GN hr3 rfl mN kN bN (a3_cons (v3 0) (a3_cons (v3 1) a3_nil))))) (ss_one (s3_raise rfl tk (LT.pmk0 PySem.F.excBase_ValueError XN.q XN.m XN.k (raises_own XN.b1 XN.b2) rfl))) ss_nil)
    (ss_one (s3_ret (e3_mth0 tk ze oS.cl hT GT hr1 bT (e3_call GS hr rfl mS kS bS (a3_cons (v3 0) (a3_cons (v3 1) (a3_cons (e3_listOf rfl ml (by decide +kernel) (a3_cons (v3 2) a3_nil)) a3_nil)))))))), ?_⟩
  rintro its St Q ⟨sd, nd, j, rfl, hs, hj, hsh, hn, q1, q2, q3⟩
  refine ⟨_, rfl, sd, rfl, fun S1 l1 => ⟨fun hset => ?_, fun hset => q1 hset S1 l1⟩⟩
  obtain ⟨is, as, sh, fe, g⟩ := good_of hset
  refine ⟨_, rfl, _, rfl, sd, is, as, sh, fe, nd, rfl, g.st, l1.at_ hs, hsh, _, rfl, ite3 (fun h => ?_) (fun h => ?_)⟩
  · have h' : isNode as.length is.length nd = false := by simpa using h
    refine q2 hset ?_ S1 l1
    rintro rfl
    rw [node_sw] at h'
    cases h'
  · have h' : isNode as.length is.length nd = true := by simpa using h
    have e : nd = swD := by
      rcases hn with e | e
      · exact e
      · rw [e] at h'
        cases h'
    subst e
    refine ⟨_, rfl, _, rfl, _, rfl, .l j, [], rfl, .inl ⟨j, rfl, l1.at_ hj⟩, .inl fun p hp => ?_⟩
    have l2 := l1.new (e := .lst []) (.inl hp)
    refine ⟨sd, swK, .t p, is, as, sh, fe, rfl, g, l2.at_ hs, List.mem_cons_self, put_same, fun S3 it l3 s0 => ?_⟩
    obtain ⟨p3, rfl, sw0, _⟩ := s0
    have sw := sw0 rfl
    obtain ⟨e, sh', fe', pf, pr, pc, pg, py, po, b1, b2⟩ := id sw
    refine ⟨.t p3, _, rfl, b1, rfl, ?_⟩
    exact ⟨.t p3, CS, rfl, sw, oS, fun S4 l4 => q3 hset rfl S4 _ ((l2.trans l3).trans l4)⟩
/-! ### Network(setup) -/
abbrev netN : List Str := ["_setup", "_journals", "_states", "_messages", "_given"]
abbrev sNetI : Stmt := (inClass (top 52) 0)
theorem scNetI : FnScope ["self", "setup", "node"] ["self", "setup"] (defScope sNetI) := ⟨rfl, rfl, rfl, by decide +kernel, rfl, by decide +kernel, by decide +kernel⟩
def netF (sd : PyData) (pj pt pm : Addr) : List (Str × Im) := [("_setup", .d sd), ("_journals", .l (.t pj)), ("_states", .l (.t pt)), ("_messages", .l (.t pm)), ("_given", .d (.int 0))]
/-- the journals of a network as it is at first -/
def Jrn0 (na ni : Nat) (kvs : List (GK × Im)) (S : Sto) : Prop := kvs.map (·.1) = (nodesK na ni).map .inr ∧ ∀ q ∈ kvs, ∃ p, q.2 = .l (.t p) ∧ S (.t p) = some (.lst [])
def Net0 (S : Sto) (c : L) (C : Addr) (sd : PyData) (na ni : Nat) : Prop := ∃ pj pt pm kvs, S c = some (.ins C (netF sd pj pt pm)) ∧ S (.t pj) = some (.mx kvs) ∧ Jrn0 na ni kvs S
def spNetI (K : PySem.W.Frag) (b cB : Addr) : Sp3 := fun its S Q E => ∃ (c : L) (C : Addr) (sd : PyData), its = [.l c, .d sd] ∧ S .swl = some (.sw b) ∧ S c = some (.ins C []) ∧ Oc K C netN ∧
  (isSet sd = false → ∀ S', Lays S S' → E (.ref cB) S') ∧ (isSet sd = true → ∀ is as sh fe, GoodS sd is as sh fe → ∀ S', LaysB c S S' → Net0 S' c C sd as.length is.length → Q (.d .none) S')
theorem jrn_at {na ni : Nat} {kvs : List (GK × Im)} {S : Sto} {l : List Key} (h : Jrn0 na ni kvs S) (hl : l ∈ nodesK na ni) : ∃ p, valI kvs (.inr l) = some (.l (.t p)) ∧ S (.t p) = some (.lst []) := by
  have m : (Sum.inr l : GK) ∈ kvs.map (·.1) := by
    rw [h.1]
    exact List.mem_map.mpr ⟨l, hl, rfl⟩
  obtain ⟨q, hq, e⟩ := List.mem_map.mp m
  have any : (kvs.find? fun kv => decide (kv.1 = (Sum.inr l : GK))).isSome = true := by
    rw [List.find?_isSome]
    exact ⟨q, hq, decide_eq_true e⟩
  obtain ⟨r, hr⟩ := Option.isSome_iff_exists.mp any
  obtain ⟨p, e2, h2⟩ := h.2 r (List.mem_of_find?_eq_some hr)
  refine ⟨p, ?_, h2⟩
  unfold valI
  rw [hr]
  show some r.2 = _
  rw [e2]
theorem ceM_ne {kvs : List (GK × Im)} {xs : List Im} : ceM kvs ≠ .lst xs := by
  cases kvs <;> exact fun z => nomatch z
theorem jrn_ne {na ni : Nat} {kvs : List (GK × Im)} {S : Sto} (h : Jrn0 na ni kvs S) : ceM kvs = .mx kvs := by
  cases kvs with
  | nil =>
    have e := h.1
    unfold nodesK at e
    cases e
  | cons _ _ => rfl
theorem ok_netI {f fC fN fS b cB CS CA CI : Addr} {fd fdC fdN fdS : FuncData} (F : Fun K "__init__" "Network.__init__" sNetI f fd)
    (GC : FnOk P w K mg base (LT.CX P w) 5 fC fdC ["setup"] (spOf P w (spCheck cB))) (bC : Binds K fdC ["setup"] []) (mC : mg "check_setup" = some (.ref fC)) (kC : PySem.W.keepIn K (.ref fC) = true)
    (GN : FnOk P w K mg base (LT.CX P w) 2 fN fdN ["setup"] (spOf P w (spNodes b))) (bN : Binds K fdN ["setup"] []) (mN : mg "nodes_of" = some (.ref fN)) (kN : PySem.W.keepIn K (.ref fN) = true)
    (GS : FnOk P w K mg base (LT.CX P w) 6 fS fdS ["setup", "node", "entries"] (spOf P w (spState b CS CA CI))) (bS : Binds K fdS ["setup", "node", "entries"] []) (mS : mg "state_of" = some (.ref fS)) (kS : PySem.W.keepIn K (.ref fS) = true) :
    FnOk P w K mg base (LT.CX P w) 7 f fd ["self", "setup"] (spOf P w (spNetI K b cB)) := by
  refine ok3 F scNetI (fun its St Q E h => ?_) (fun cdv A outer s H E E3 hr => ?_)
  · obtain ⟨c, C, sd, rfl, _⟩ := h
    rfl
  have hu : (A.deeper (PyProof.Rows.envOfC "Network.__init__" (defScope sNetI) s.heap.objs.size f cdv)).units + 1 < cLine := Nat.lt_of_le_of_lt (by omega) hr.units
  have hr2 : Room 2 _ := hr.mono (by decide)
  have hr5 : Room 5 _ := hr.mono (by decide)
  have tk : LT.Takes (cxOf (LT.CX P w) P w K mg base ["self", "setup", "node"] "Network.__init__" (defScope sNetI) f cdv A outer s H E) (zOf E E3).z := LT.takes_of rfl rfl rfl rfl
  refine ⟨_, ss_cons (s3_expr (e3_callX tk GC hr5 rfl mC kC bC (a3_cons (v3 1) a3_nil)))
    (ss_cons (s3_fld (v3 0) (v3 1) (by rfl))
    (ss_cons (s3_fld (v3 0) (e3_dcM (own := [("node", 2)]) (g := .one 2) (Nat.lt_of_le_of_lt (Nat.le_add_right _ _) hr.units) rfl scNetI.nd (i3_list (e3_call GN hr2 rfl mN kN bN (a3_cons (v3 1) a3_nil))) (blkOk_by (N := ["self", "setup", "node"]) (sc := defScope sNetI) (by decide +kernel)) (fun j hj => hj)
      (fun _ _ _ _ _ => b3_one (i := 2) scNetI.nd rfl (Or.inl rfl)) (fun _ _ _ _ _ => ts3_nil) (fun _ _ _ _ _ => by exact v3 2) (fun _ _ _ _ _ => e3_lst a3_nil)) (by rfl))
    (ss_cons (s3_fld (v3 0) (e3_dcM (own := [("node", 2)]) (g := .one 2) (Nat.lt_of_le_of_lt (Nat.le_add_right _ _) hr.units) rfl scNetI.nd (i3_list (e3_call GN hr2 rfl mN kN bN (a3_cons (v3 1) a3_nil))) (blkOk_by (N := ["self", "setup", "node"]) (sc := defScope sNetI) (by decide +kernel)) (fun j hj => hj)
      (fun _ _ _ _ _ => b3_one (i := 2) scNetI.nd rfl (Or.inl rfl)) (fun _ _ _ _ _ => ts3_nil) (fun _ _ _ _ _ => by exact v3 2) (fun _ _ _ _ _ => by exact e3_call GS hr (by rfl) mS kS bS (a3_cons (v3 1) (a3_cons (v3 2) (a3_cons (e3_dgM hu (e3_fld (v3 0)) (v3 2) (by intro _ _; rfl)) a3_nil))))) (by rfl))
    (ss_cons (s3_fld (v3 0) e3_dnewK (by rfl)) (ss_one (s3_fld (v3 0) e3_int (by rfl))))))), ?_⟩
  rintro its St Q ⟨c, C, sd, rfl, hs, hc, O, q1, q2⟩
  refine ⟨_, rfl, sd, rfl, fun S0 l0 => ⟨fun hset => ?_, fun hset => q1 hset S0 l0⟩⟩
  obtain ⟨is, as, sh, fe, g⟩ := good_of hset
  have hi := g.st.2.1
  have ha := g.st.2.2
  have ncs : (Loc.swl : L) ≠ c := by
    rintro rfl
    rw [hs] at hc
    cases hc
  have b0 : LaysB c St S0 := LaysB.of l0
  have esd : sd = .tuple [.tuple is, .tuple as, sh, fe] := g.st.1
  try dsimp only [uSeq, uDrop]
  refine st_val (l0.at_ hc) rfl b0 O.cl (O.at_ 0) (by decide) (fun R r => ⟨_, rfl, r⟩) fun S1 l1 h1 k1 => ?_
  have hs1 : S1 .swl = some (.sw b) := l1.at_ hs ncs
  try dsimp only [uSeq, uDrop]
  refine st_made (Good := fun it S => ∃ pj kvs, it = .l (.t pj) ∧ S (.t pj) = some (ceM kvs) ∧ S1 (.t pj) = none ∧ kvs.map (·.1) = (nodesK as.length is.length).map .inr ∧ ∀ q ∈ kvs, ∃ p, q.2 = .l (.t p) ∧ S (.t p) = some (.lst []) ∧ S1 (.t p) = none)
      h1 rfl l1 O.cl (O.at_ 1) (by show 1 < 1000; decide) (fun R r => ?_) fun it S2 S3 l2 ⟨pj, kvs, ej, hj, fj, hk, hall⟩ l3 h3 k3 => ?_
  · dsimp only [Blk.any]
    refine dcM_go (g := fun _ => true) (val := fun _ it S => ∃ p, it = .l (.t p) ∧ S (.t p) = some (.lst []) ∧ S1 (.t p) = none) (walk_nodes g.st hs1 fun R r => ⟨_, rfl, r⟩) (nodes_len ha hi) (nodes_nd ha hi) (fun l hl S' Q' lS q => q) (fun l hl S' Q' lS q => ⟨_, rfl, q⟩)
      (fun l hl _ S' Q' lS kq => ⟨Nat.zero_le _, .inl fun p hp => kq _ _ ((Lays.refl S').new (.inl hp)) ⟨p, rfl, put_same, fresh_l hp lS⟩⟩) ?_ (fun S' p kvs lS f h hk hv => r _ S' lS ⟨p, kvs, rfl, h, f, ?_, fun q hq => ?_⟩)
    · rintro l it S4 S5 p kvs ⟨pe, e1, e2, e3⟩ h4 sv
      refine ⟨pe, e1, sv.at_ e2 ?_, e3⟩
      intro z
      injection z with z
      subst z
      rw [h4] at e2
      injection e2 with e2
      exact ceM_ne e2
    · rw [hk, List.filter_eq_self.mpr (fun _ _ => rfl)]
    · obtain ⟨l, _, hv'⟩ := hv q hq
      exact hv'
  subst ej
  have nj : (.t pj : L) ≠ c := ne_t fj h1
  have jr : Jrn0 as.length is.length kvs S3 := by
    refine ⟨hk, fun q hq => ?_⟩
    obtain ⟨p, e1, e2, e3⟩ := hall q hq
    exact ⟨p, e1, (k3 _ (ne_t e3 h1)).trans e2⟩
  have j3 : S3 (.t pj) = some (.mx kvs) := by
    rw [k3 _ nj, hj, jrn_ne jr]
  have hs3 : S3 .swl = some (.sw b) := l3.at_ hs ncs
  try dsimp only [uSeq, uDrop]
  refine st_made (Good := fun it _ => ∃ pt, it = .l (.t pt)) h3 rfl l3 O.cl (O.at_ 2) (by show 2 < 1000; decide) (fun R r => ?_) fun it S4 S5 l4 ⟨pt, et⟩ l5 h5 k5 => ?_
  · dsimp only [Blk.any]
    refine dcM_go (g := fun _ => true) (val := fun _ _ _ => True) (walk_nodes g.st hs3 fun R r => ⟨_, rfl, r⟩) (nodes_len ha hi) (nodes_nd ha hi) (fun l hl S' Q' lS q => q) (fun l hl S' Q' lS q => ⟨_, rfl, q⟩)
      (fun l hl _ S' Q' lS kq => ?_) (fun _ _ _ _ _ _ _ _ _ => trivial) (fun S' p kvs lS f h hk hv => r _ S' lS ⟨p, rfl⟩)
    obtain ⟨pe, e1, e2⟩ := jrn_at jr hl
    refine ⟨_, rfl, _, rfl, _, rfl, c, C, _, .l (.t pj), rfl, lS.at_ h3, O.cl, O.at_ 1, rfl, _, rfl, .t pj, kvs, .inr l, .l (.t pe), rfl, rfl, lS.at_ j3, e1, ?_⟩
    exact ⟨sd, l, .t pe, is, as, sh, fe, rfl, g, lS.at_ hs3, hl, lS.at_ e2, fun S6 it l6 _ => kq S6 it l6 trivial⟩
  subst et
  try dsimp only [uSeq, uDrop]
  refine st_new h5 rfl l5 O.cl (O.at_ 3) (by show 3 < 1000; decide) (fun R r => r) fun S6 pm l6 f6 n6 h6 e6 k6 => ?_
  try dsimp only [uSeq, uDrop]
  refine st_val h6 rfl l6 O.cl (O.at_ 4) (by show 4 < 1000; decide) (fun R r => r) fun S7 l7 h7 k7 => ?_
  have up : ∀ {d : L} {x : Ce}, S3 d = some x → d ≠ c → S7 d = some x := fun {d x} hd nd => by
    have q5 := (k5 d nd).trans (l4.at_ hd)
    exact (k7 d nd).trans ((k6 d nd (by rw [q5]; exact fun z => nomatch z)).trans q5)
  refine q2 hset is as sh fe g S7 l7 ⟨pj, pt, pm, kvs, h7, up j3 nj, hk, fun q hq => ?_⟩
  obtain ⟨p, e1, e2, e3⟩ := hall q hq
  have np := ne_t e3 h1
  exact ⟨p, e1, up ((k3 _ np).trans e2) np⟩
end
end Pg
end
section
set_option Elab.async false
set_option linter.all false
set_option maxRecDepth 100000
set_option maxHeartbeats 1000000
/-! A journal is told. -/
namespace Pg
open PySem PySem.Spec PyProof.Rows L2 Mx So L3 St Mc
section
variable {P : Program} {w : World} {K : PySem.W.Frag} {mg : Str → Option Value} {base : Heap}
abbrev sChk : Stmt := (inClass (top 52) 21)
theorem scChk : FnScope ["self", "node"] ["self", "node"] (defScope sChk) := ⟨rfl, rfl, rfl, by decide +kernel, rfl, by decide +kernel, by decide +kernel⟩
def spChk (K : PySem.W.Frag) (b cN : Addr) : Sp3 := fun its S Q E => ∃ (c : L) (C : Addr) (fs : List (Str × Im)) (sd nd : PyData) (is as : List PyData) (sh fe : PyData), its = [.l c, .d nd] ∧ S .swl = some (.sw b) ∧ S c = some (.ins C fs) ∧ Oc K C netN ∧ fs.lookup ("_setup" : Str) = some (.d sd) ∧ StD sd is as sh fe ∧ SeqAt.shaped nd = true ∧
  (isNode as.length is.length nd = true → Q (.d .none) S) ∧ (isNode as.length is.length nd = false → E (.ref cN) S)
theorem ok_chk {f fN b cN : Addr} {fd fdN : FuncData} (F : Fun K "_check_node" "Network._check_node" sChk f fd)
    (GN : FnOk P w K mg base (LT.CX P w) 3 fN fdN ["setup", "node"] (spOf P w (spNode b))) (bN : Binds K fdN ["setup", "node"] []) (mN : mg "is_node" = some (.ref fN)) (kN : PySem.W.keepIn K (.ref fN) = true) (XN : Exf K mg "NoSuch" cN) :
    FnOk P w K mg base (LT.CX P w) 4 f fd ["self", "node"] (spOf P w (spChk K b cN)) := by
  refine ok3 F scChk (fun its St Q E h => ?_) (fun cdv A outer s H E E3 hr => ?_)
  · obtain ⟨c, C, fs, sd, nd, is, as, sh, fe, rfl, _⟩ := h
    rfl
  refine ⟨_, ss_one (s3_if (t3_not (t3_val (e3_call GN hr rfl mN kN bN (a3_cons (e3_fld (v3 0)) (a3_cons (v3 1) a3_nil))))) (ss_one (s3_raise rfl (LT.takes_of rfl rfl rfl rfl) (LT.pmk0 PySem.F.excBase_ValueError XN.q XN.m XN.k (raises_own XN.b1 XN.b2) rfl))) ss_nil), ?_⟩
  rintro its St Q ⟨c, C, fs, sd, nd, is, as, sh, fe, rfl, hs, hc, O, hl, st, hsh, q1, q2⟩
  refine ⟨_, rfl, c, C, fs, _, rfl, hc, O.cl, O.at_ 0, hl, _, rfl, sd, is, as, sh, fe, nd, rfl, st, hs, hsh, _, rfl, ite3 (fun h => ?_) (fun h => ?_)⟩
  · exact q2 (by simpa using h)
  · exact q1 (by simpa using h)
abbrev sJrn : Stmt := (inClass (top 52) 17)
theorem scJrn : FnScope ["self", "node"] ["self", "node"] (defScope sJrn) := ⟨rfl, rfl, rfl, by decide +kernel, rfl, by decide +kernel, by decide +kernel⟩
def spJrn (K : PySem.W.Frag) (b C : Addr) : Sp3 := fun its S Q _ => ∃ (c : L) (fs : List (Str × Im)) (sd : PyData) (l : List Key) (is as : List PyData) (sh fe : PyData) (pj : L) (kvs : List (GK × Im)) (e : L) (xs : List Im), its = [.l c, kT' l] ∧ S .swl = some (.sw b) ∧ S c = some (.ins C fs) ∧ fs.lookup ("_setup" : Str) = some (.d sd) ∧ fs.lookup ("_journals" : Str) = some (.l pj) ∧ fs.lookup ("_check_node" : Str) = none ∧
  StD sd is as sh fe ∧ SeqAt.shaped (.tuple (l.map kD)) = true ∧ isNode as.length is.length (.tuple (l.map kD)) = true ∧ S pj = some (.mx kvs) ∧ valI kvs (.inr l) = some (.l e) ∧ S e = some (.lst xs) ∧ ∀ S' p, Lays S S' → S (.t p) = none → S' (.t p) = some (.lst xs) → Q (.l (.t p)) S'
theorem ok_jrn {f fK b cN C : Addr} {fd fdK : FuncData} (F : Fun K "journal" "Network.journal" sJrn f fd) (ml : mg "list" = none)
    (GK : FnOk P w K mg base (LT.CX P w) 4 fK fdK ["self", "node"] (spOf P w (spChk K b cN))) (bK : Binds K fdK ["self", "node"] []) (hK : Meth K C "_check_node" fK) (O : Oc K C netN) :
    FnOk P w K mg base (LT.CX P w) 5 f fd ["self", "node"] (spOf P w (spJrn K b C)) := by
  refine ok3 F scJrn (fun its St Q E h => ?_) (fun cdv A outer s H E E3 hr => ?_)
  · obtain ⟨c, fs, sd, l, is, as, sh, fe, pj, kvs, e, xs, rfl, _⟩ := h
    rfl
  have hu : (A.deeper (PyProof.Rows.envOfC "Network.journal" (defScope sJrn) s.heap.objs.size f cdv)).units + 1 < cLine := Nat.lt_of_le_of_lt (by omega) hr.units
  have tk : LT.Takes (cxOf (LT.CX P w) P w K mg base ["self", "node"] "Network.journal" (defScope sJrn) f cdv A outer s H E) (zOf E E3).z := LT.takes_of rfl rfl rfl rfl
  have ze : ZE (zOf E E3) E := fun _ _ _ _ => Iff.rfl
  refine ⟨_, ss_cons (s3_expr (e3_mth tk ze O.cl hK GK hr bK (v3 0) (a3_cons (v3 1) a3_nil)))
    (ss_one (s3_ret (e3_listOf rfl ml (by decide +kernel) (a3_cons (e3_dgM hu (e3_fld (v3 0)) (v3 1) (by intro _ _; rfl)) a3_nil)))), ?_⟩
  rintro its St Q ⟨c, fs, sd, l, is, as, sh, fe, pj, kvs, e, xs, rfl, hs, hc, h1, h2, h3, st, hsh, hn, hj, hv, he, q⟩
  refine ⟨_, rfl, c, fs, rfl, hc, h3, _, rfl, c, C, fs, sd, _, is, as, sh, fe, rfl, hs, hc, O, h1, st, hsh, fun _ => ?_, fun h => by rw [hn] at h; cases h⟩
  refine ⟨_, rfl, c, C, fs, .l pj, rfl, hc, O.cl, O.at_ 1, h2, _, rfl, pj, kvs, .inr l, .l e, rfl, rfl, hj, hv, ?_⟩
  refine ⟨_, xs, rfl, .inl ⟨e, rfl, he⟩, .inl fun p hp => q _ p ((Lays.refl St).new (.inl hp)) hp put_same⟩
end
end Pg
end
section
set_option Elab.async false
set_option maxRecDepth 100000
set_option maxHeartbeats 1000000
/-! The law's box. -/
namespace Bx
open PySem PySem.Spec PyProof.Rows L2 Mx So L3
/-- all that stood is as it was, but what stands at b -/
def Off (b : Addr) (H H' : Hp) : Prop := ∀ p o, H p = some o → p ≠ b → H' p = some o
theorem Off.refl (b : Addr) (H : Hp) : Off b H H := fun _ _ h _ => h
theorem Off.trans {b : Addr} {H H1 H2 : Hp} (x : Off b H H1) (y : Off b H1 H2) : Off b H H2 := fun p o h n => y p o (x p o h n) n
theorem Off.upd {b : Addr} {H H1 : Hp} {o : HO} (x : Off b H H1) : Off b H (upd H1 b o) := fun p u h n => by
  rw [upd_ne n]
  exact x p u h n
theorem Off.new {b p : Addr} {H H1 : Hp} {o : HO} (x : Off b H H1) (hp : H1 p = none) : Off b H (L2.upd H1 p o) := fun q u h n => by
  have h1 := x q u h n
  rw [upd_ne (ne_of_none h1 hp)]
  exact h1

/-- the law's box: what is left of a cell, how often it is to be told, the next place; the cells -/
structure BoxAt (H : Hp) (b l : Addr) (cs : List Int) : Prop where
  bx : ∃ x c a : Int, H b = some (.lst [.int x, .int c, .int a, .ref l]) ∧ 0 ≤ a
  cl : H l = some (.lst (cs.map V.int))
theorem BoxAt.ne {H : Hp} {b l : Addr} {cs : List Int} (B : BoxAt H b l cs) : b ≠ l := by
  obtain ⟨⟨x, c, a, h, _⟩, h2⟩ := B
  refine ne_of h h2 ?_
  intro e
  injection e with e
  cases cs with
  | nil => cases e
  | cons y ys =>
    rw [List.map_cons] at e
    injection e with e1 e2
    cases ys with
    | nil => cases e2
    | cons z zs =>
      rw [List.map_cons] at e2
      injection e2 with e3 e4
      cases zs with
      | nil => cases e4
      | cons t ts =>
        rw [List.map_cons] at e4
        injection e4 with e5 e6
        cases ts with
        | nil => cases e6
        | cons u us =>
          rw [List.map_cons] at e6
          injection e6 with e7 e8
          cases e7
theorem BoxAt.some {H : Hp} {b l : Addr} {cs : List Int} (B : BoxAt H b l cs) : H b ≠ none := by
  obtain ⟨⟨x, c, a, h, _⟩, _⟩ := B
  rw [h]
  exact fun z => nomatch z
theorem BoxAt.new {H : Hp} {b l p : Addr} {cs : List Int} {o : HO} (B : BoxAt H b l cs) (hp : H p = none) : BoxAt (upd H p o) b l cs := by
  obtain ⟨⟨x, c, a, h, ha⟩, h2⟩ := B
  exact ⟨⟨x, c, a, by rw [upd_ne (ne_of_none h hp)]; exact h, ha⟩, by rw [upd_ne (ne_of_none h2 hp)]; exact h2⟩
theorem BoxAt.set {H : Hp} {b l : Addr} {cs : List Int} {x c a : Int} (B : BoxAt H b l cs) (ha : 0 ≤ a) : BoxAt (upd H b (.lst [.int x, .int c, .int a, .ref l])) b l cs :=
  ⟨⟨x, c, a, upd_same, ha⟩, by rw [upd_ne B.ne.symm]; exact B.cl⟩

theorem yes_go {σ : L2.St} {H : Hp} {A B : Hp → Prop} (h : A H) : tYes σ H (fun b H3 => if b = true then A H3 else B H3) := by
  show (if true = true then A H else B H)
  rw [if_pos rfl]
  exact h
def spBox (K : PySem.W.Frag) : Sp := fun vs H Q _ => ∃ (a : Addr) (ns : List Int), vs = [.ref a] ∧ SqL K H a (ns.map V.int) ∧ ns.length ≤ 63 ∧
  ∀ (b l : Addr) (cs : List Int) (H' : Hp), BoxAt H' b l cs → Same H H' → Q (.ref b) H'
def spTake : Sp := fun vs H Q _ => ∃ (b l : Addr) (cs : List Int) (m : Int), vs = [.ref b, .int m] ∧ BoxAt H b l cs ∧ 0 < m ∧ m < 1073741824 ∧
  ∀ (r : Int) (H' : Hp), 0 ≤ r → r < m → BoxAt H' b l cs → Off b H H' → Q (.int r) H'
def spPick : Sp := fun vs H Q _ => ∃ (b l q : Addr) (cs : List Int) (xs : List V), vs = [.ref b, .ref q] ∧ BoxAt H b l cs ∧ H q = some (.lst xs) ∧ q ≠ b ∧ 0 < xs.length ∧ xs.length < 1000 ∧
  ∀ (v : V) (H' : Hp), v ∈ xs → BoxAt H' b l cs → Off b H H' → Q v H'

structure Txt (mg : Str → Option Value) : Prop where
  len : mg "len" = none
  abs : mg "abs" = none
  int : mg "int" = none
/-- what promises to raise nothing promises it anywhere -/
theorem toX {P : Program} {w : World} {K : PySem.W.Frag} {mg : Str → Option Value} {base : Heap} {CX : CXT} {k : Nat} {f : Addr} {fd : FuncData} {ps : List Str} {sp : Sp} (F : FnOk P w K mg base CX0 k f fd ps sp) : FnOk P w K mg base CX k f fd ps sp :=
  ⟨F.len, fun A o s H a us vs Q E hr e b r q => codeAny_mono (F.run A o s H a us vs Q E hr e b r q) fun r s' h => by
    cases r with
    | error e => exact h.elim
    | ok fl => cases fl <;> exact h⟩
theorem weak {P : Program} {w : World} {K : PySem.W.Frag} {mg : Str → Option Value} {base : Heap} {CX : CXT} {k : Nat} {f : Addr} {fd : FuncData} {ps : List Str} {sp sp' : Sp} (F : FnOk P w K mg base CX k f fd ps sp) (h : ∀ vs H Q E, sp' vs H Q E → sp vs H Q E) : FnOk P w K mg base CX k f fd ps sp' :=
  ⟨fun vs H Q E q => F.len vs H Q E (h _ _ _ _ q), fun A o s H a us vs Q E hr e b r q => F.run A o s H a us vs Q E hr e b r (h _ _ _ _ q)⟩

/-! ### over the store -/
def boxC (x c a : Int) : Ce := .lst [.d (.int x), .d (.int c), .d (.int a), .l .cells]
def BoxOn (S : Sto) : Prop := ∃ (x c a : Int) (cs : List Int), 0 ≤ a ∧ S .box = some (boxC x c a) ∧ S .cells = some (.lst (cs.map fun n => .d (.int n)))
def But (S S' : Sto) : Prop := ∀ c, c ≠ .box → S' c = S c
theorem But.refl (S : Sto) : But S S := fun _ _ => rfl
theorem But.trans {S S1 S2 : Sto} (x : But S S1) (y : But S1 S2) : But S S2 := fun c h => (y c h).trans (x c h)
def s3Take : Sp3 := fun its S Q _ => ∃ m : Int, its = [.l .box, .d (.int m)] ∧ BoxOn S ∧ 0 < m ∧ m < 1073741824 ∧ ∀ (r : Int) (S' : Sto), 0 ≤ r → r < m → BoxOn S' → But S S' → Q (.d (.int r)) S'
def s3Pick : Sp3 := fun its S Q _ => ∃ (q : L) (xs : List Im), its = [.l .box, .l q] ∧ BoxOn S ∧ S q = some (.lst xs) ∧ q ≠ .box ∧ 0 < xs.length ∧ xs.length < 1000 ∧ ∀ (it : Im) (S' : Sto), it ∈ xs → BoxOn S' → But S S' → Q it S'
section
variable {P : Program} {w : World} {H H' : Hp} {ad : L → Addr} {S : Sto}
theorem box_at (R : Rep P w H ad S) (B : BoxOn S) : ∃ cs, BoxAt H (ad .box) (ad .cells) cs ∧ S .box ≠ none ∧ S .cells = some (.lst (cs.map fun n => .d (.int n))) := by
  obtain ⟨x, c, a, cs, ha, hb, hc⟩ := B
  obtain ⟨xs, h1, h2⟩ := R.at_ _ _ hb
  obtain ⟨ys, h3, h4⟩ := R.at_ _ _ hc
  have e := pr_int h4
  subst e
  cases h2 with
  | cons q1 t =>
  cases t with
  | cons q2 t =>
  cases t with
  | cons q3 t =>
  cases t with
  | cons q4 t =>
  cases t
  rw [Dt.intI q1, Dt.intI q2, Dt.intI q3, q4.1] at h1
  exact ⟨cs, ⟨⟨x, c, a, h1, ha⟩, h3⟩, by rw [hb]; exact (fun z => nomatch z), hc⟩
theorem box_go (R : Rep P w H ad S) {cs : List Int} (hb : S .box ≠ none) (hc : S .cells = some (.lst (cs.map fun n => .d (.int n)))) (B : BoxAt H' (ad .box) (ad .cells) cs) (o : Off (ad .box) H H') : ∃ S', Rep P w H' ad S' ∧ Nx H ad S H' ad S' ∧ BoxOn S' ∧ But S S' := by
  obtain ⟨⟨x, c, a, h1, ha⟩, h2⟩ := B
  have hcn : S .cells ≠ none := by
    rw [hc]
    exact fun z => nomatch z
  obtain ⟨ob, hob, nob⟩ := R.obj hb
  have tk : Tk H H' := fun p xs e => by
    have ne : p ≠ ad .box := by
      rintro rfl
      rcases e with e | ⟨_, ob2, e⟩
      · rw [hob] at e
        exact nob.1 _ (Option.some.inj e)
      · rw [hob] at e
        exact nob.2 _ _ (Option.some.inj e)
    rcases e with e | ⟨e1, ob2, e⟩
    · exact .inl (o p _ e ne)
    · exact .inr ⟨e1, ob2, o p _ e ne⟩
  have n : Nx H ad S H' ad (S.put .box (boxC x c a)) := ⟨tk, fun _ h => ⟨rfl, put_dom h⟩⟩
  have dom : ∀ y, S.put .box (boxC x c a) y ≠ none → S y ≠ none := by
    intro y hy
    by_cases q : y = .box
    · subst q
      exact hb
    · rw [put_ne q] at hy
      exact hy
  refine ⟨S.put .box (boxC x c a), ⟨fun y e he => ?_, fun y z hy hz => R.inj y z (dom y hy) (dom z hz), R.tm⟩, n, ⟨x, c, a, cs, ha, put_same, by rw [put_ne (by decide)]; exact hc⟩, fun y hy => put_ne hy⟩
  by_cases q : y = .box
  · subst q
    rw [put_same] at he
    have e' := Option.some.inj he
    subst e'
    exact ⟨_, h1, .cons (.int _) (.cons (.int _) (.cons (.int _) (.cons ⟨rfl, put_dom hcn⟩ .nil)))⟩
  · rw [put_ne q] at he
    have hy : S y ≠ none := by
      rw [he]
      exact fun z => nomatch z
    obtain ⟨oy, hoy, _⟩ := R.obj hy
    have ne : ad y ≠ ad .box := fun z => q (R.inj y .box hy hb z)
    exact (R.at_ y e he).keep n ((o _ _ hoy ne).trans hoy.symm)
theorem up_take {vs : List V} {Q : VK} {E : XK} (h : spOf P w s3Take vs H Q E) : spTake vs H Q E := by
  obtain ⟨ad, S, its, Q3, E3, R, p, ⟨m, rfl, B, h1, h2, k⟩, kq, _⟩ := h
  obtain ⟨v, u, rfl, i1, i2⟩ := pr2 p
  obtain ⟨rfl, _⟩ := i1
  have e := Dt.intI i2
  subst e
  obtain ⟨cs, B1, hb, hc⟩ := box_at R B
  refine ⟨_, _, cs, m, rfl, B1, h1, h2, fun r H' r0 r1 B' o => ?_⟩
  obtain ⟨S', R', n', B2, bt⟩ := box_go R hb hc B' o
  exact kq _ H' ad S' (.d (.int r)) R' n' (Dt.int r) (k r S' r0 r1 B2 bt)
theorem up_pick {vs : List V} {Q : VK} {E : XK} (h : spOf P w s3Pick vs H Q E) : spPick vs H Q E := by
  obtain ⟨ad, S, its, Q3, E3, R, p, ⟨q, xs, rfl, B, hq, nq, h1, h2, k⟩, kq, _⟩ := h
  obtain ⟨v, u, rfl, i1, i2⟩ := pr2 p
  obtain ⟨rfl, _⟩ := i1
  obtain ⟨rfl, hqn⟩ := i2
  obtain ⟨cs, B1, hb, hc⟩ := box_at R B
  obtain ⟨ys, h3, h4⟩ := R.at_ _ _ hq
  have hl := Paired.length h4
  refine ⟨_, _, _, cs, ys, rfl, B1, h3, fun z => nq (R.inj _ _ hqn hb z), by omega, by omega, fun v H' hv B' o => ?_⟩
  obtain ⟨S', R', n', B2, bt⟩ := box_go R hb hc B' o
  obtain ⟨j, hj⟩ := List.mem_iff_getElem?.mp hv
  obtain ⟨it, hit, hi⟩ := pr_of h4 hj
  exact kq v H' ad S' it R' n' (n'.it hi) (k it S' (List.mem_of_getElem? hit) B2 bt)
end
end Bx
end
section
set_option Elab.async false
set_option maxRecDepth 100000
namespace Bx2
open PySem L2 Bx
def top (i : Nat) : Stmt := PySem.Challenge.pw_acquit_k02_what_is_a_setup.main.body.getD i (.Pass ⟨0, 0, 0, 0⟩)
abbrev sBox : Stmt := top 54
abbrev sTake : Stmt := top 55
abbrev sPick : Stmt := top 56
section
variable {P : Program} {w : World} {K : PySem.W.Frag} {mg : Str → Option Value} {base : Heap}
theorem scB : FnScope ["script", "x"] ["script"] (defScope sBox) := ⟨rfl, rfl, rfl, by decide +kernel, rfl, by decide +kernel, by decide +kernel⟩
theorem ok_box {f : Addr} {fd : FuncData} (F : Fun K "_law_box" "_law_box" sBox f fd) (T : Txt mg) : FnOk P w K mg base CX0 1 f fd ["script"] (spBox K) := by
  refine F.ok scB (fun vs H Q E h => ?_) (fun cdv A outer s H vs Q E hr h => ?_)
  · obtain ⟨a, ns, rfl, _⟩ := h
    rfl
  · obtain ⟨a, ns, rfl, hS, hlen, k⟩ := h
    refine ⟨_, pss_one (ps_ret (pe_lst (pa_cons pe_int (pa_cons pe_int (pa_cons pe_int (pa_cons
      (pe_lc (own := [("x", 1)]) (g := gName 1) (tt := tYes) rfl scB.nd (pi_list (pv 0)) (blkOk_by (N := ["script", "x"]) (sc := defScope sBox) (by decide +kernel))
        (fun _ _ _ _ _ => pg_name (i := 1) scB.nd rfl (Or.inl rfl)) (fun _ _ _ _ _ => pts_nil)
        (fun _ _ _ _ _ => pe_callB call_abs (by rfl) T.abs (by decide +kernel) (pa_cons (pe_callTy call_int1 (by rfl) T.int (by decide +kernel) (pa_cons (pv 1) pa_nil)) pa_nil)))
      pa_nil)))))), ?_⟩
    refine ⟨_, rfl, a, rfl, ⟨_, hS⟩, fun D hD => ?_⟩
    refine lc_list (K := K) (a := a) (xs := ns.map V.int) (fun i H' => ∃ cs : List Int, H' D = some (.lst (cs.map V.int)) ∧ cs.length = i ∧ Same H H') ⟨[], upd_same, rfl, ?_⟩ ?_ ?_ ?_
    · intro p o e
      rw [upd_ne (ne_of_none e hD)]
      exact e
    · rintro i H' _ ⟨cs, _, _, s2⟩
      exact s2.seq hS
    · rintro i x H' hi ⟨cs, h1, h2, h3⟩
      have hx : x ∈ ns.map V.int := List.mem_of_getElem? hi
      obtain ⟨z, _, rfl⟩ := List.mem_map.mp hx
      have hil : i < (ns.map V.int).length := (List.getElem?_eq_some_iff.mp hi).1
      rw [List.length_map] at hil
      refine ⟨rfl, ?_⟩
      refine yes_go ?_
      refine ⟨_, rfl, .inl ⟨_, rfl, _, rfl, _, h1, ?_, cs ++ [if z < 0 then -z else z], ?_, ?_, ?_⟩⟩
      · rw [List.length_map]
        exact small1000 (by omega)
      · rw [upd_same, List.map_append]
        rfl
      · rw [List.length_append, h2]
        rfl
      · intro p o e
        have e' := h3 p o e
        rw [upd_ne (ne_of_none e hD)]
        exact e'
    · rintro H' ⟨cs, h1, h2, h3⟩
      refine ⟨by show 4 ≤ sizeLine; decide, fun b hb => ?_⟩
      refine k b D cs _ ⟨⟨0, 0, 0, upd_same, by decide⟩, ?_⟩ ?_
      · rw [upd_ne (ne_of_none h1 hb)]
        exact h1
      · intro p o e
        have e' := h3 p o e
        rw [upd_ne (ne_of_none e' hb)]
        exact e'

theorem scT : FnScope ["box", "m", "at", "cell", "told"] ["box", "m"] (defScope sTake) := ⟨rfl, rfl, rfl, by decide +kernel, rfl, by decide +kernel, by decide +kernel⟩
theorem ok_take {f : Addr} {fd : FuncData} (F : Fun K "_law_take" "_law_take" sTake f fd) (T : Txt mg) : FnOk P w K mg base CX0 1 f fd ["box", "m"] spTake := by
  refine F.ok scT (fun vs H Q E h => ?_) (fun cdv A outer s H vs Q E hr h => ?_)
  · obtain ⟨b, l, cs, m, rfl, _⟩ := h
    rfl
  · obtain ⟨b, l, cs, m, rfl, B, hm, hm2, k⟩ := h
    have rest : ∃ t, PSs (cxOf CX0 P w K mg base ["box", "m", "at", "cell", "told"] "_law_take" (defScope sTake) f cdv A outer s H E).nox ((defBody sTake).drop 1) t ∧
        ∀ (H1 : Hp) (u v x : Option V), BoxAt H1 b l cs → Off b H H1 → t { nx := fun _ H' => Q .non H', rt := Q } [some (.ref b), some (.int m), u, v, x] H1 := by
      refine ⟨_, (pss_cons (ps_if (pt_cmpR op_gt (pe_ix ix_list (pv 0) pe_int (fun _ _ => rfl)) pe_int (nomark _))
        (pss_cons (ps_set (i := 4) scT.nd rfl (Or.inl rfl) (pe_op op_mod (pe_callTy call_int1 (by rfl) T.int (by decide +kernel) (pa_cons (pe_ix ix_list (pv 0) pe_int (fun _ _ => rfl)) pa_nil)) (pv 1)))
        (pss_cons (ps_asg (pe_op op_fdiv (pe_ix ix_list (pv 0) pe_int (fun _ _ => rfl)) (pv 1)) (pg_sub (pv 0) pe_int set_list))
        (pss_cons (ps_asg (pe_ifExp (pt_cmpR op_gt (pe_ix ix_list (pv 0) pe_int (fun _ _ => rfl)) pe_int (nomark _)) (pe_op op_sub (pe_ix ix_list (pv 0) pe_int (fun _ _ => rfl)) pe_int) pe_int) (pg_sub (pv 0) pe_int set_list))
        (pss_one (ps_ret (pv 4)))))) pss_nil)
      (pss_cons (ps_asg (pe_op op_add (pe_ix ix_list (pv 0) pe_int (fun _ _ => rfl)) pe_int) (pg_sub (pv 0) pe_int set_list))
      (pss_cons (ps_asg (pe_op op_mod (pe_callTy call_int1 (by rfl) T.int (by decide +kernel) (pa_cons (pe_op op_add (pe_op op_mul (pe_ix ix_list (pv 0) pe_int (fun _ _ => rfl)) pe_int)
          (pe_op op_mul pe_int (pe_op op_add (pe_ix ix_list (pv 0) pe_int (fun _ _ => rfl)) pe_int))) pa_nil)) pe_int) (pg_sub (pv 0) pe_int set_list))
      (pss_one (ps_ret (pe_op op_mod (pe_op op_mod (pe_callTy call_int1 (by rfl) T.int (by decide +kernel) (pa_cons (pe_op op_add (pe_op op_fdiv (pe_ix ix_list (pv 0) pe_int (fun _ _ => rfl)) pe_int)
          (pe_ix ix_list (pv 0) pe_int (fun _ _ => rfl))) pa_nil)) pe_int) (pv 1))))))), ?_⟩
      intro H1 u v x B1 O1
      obtain ⟨⟨x1, c1, a1, hb, ha⟩, _⟩ := id B1
      refine ⟨_, rfl, b, _, _, _, rfl, rfl, SqL.of hb, atI_nat (j := 1) rfl, _, _, rfl, rfl, _, rfl, ?_⟩
      refine ite2 (fun _ => ?_) (fun _ => ?_)
      · refine ⟨_, rfl, b, _, _, _, rfl, rfl, SqL.of hb, atI_nat (j := 0) rfl, .inl ⟨_, rfl, _, rfl, _, _, rfl, rfl, hm, ?_⟩⟩
        refine ⟨_, rfl, b, _, _, _, rfl, rfl, SqL.of hb, atI_nat (j := 0) rfl, _, rfl, _, _, rfl, rfl, ⟨hm, hm2⟩, ?_⟩
        refine ⟨_, rfl, b, _, _, 0, rfl, rfl, hb, rfl, ?_⟩
        refine ⟨_, rfl, b, _, _, _, rfl, rfl, SqL.of upd_same, atI_nat (j := 0) rfl, _, _, rfl, rfl, _, rfl, ?_⟩
        refine ite2 (fun _ => ?_) (fun _ => ?_)
        · refine ⟨_, rfl, b, _, _, _, rfl, rfl, SqL.of upd_same, atI_nat (j := 1) rfl, _, _, rfl, rfl, ?_⟩
          refine ⟨_, rfl, b, _, _, 1, rfl, rfl, upd_same, rfl, _, rfl, ?_⟩
          rw [upd_upd]
          exact k _ _ (Int.emod_nonneg _ (Int.ne_of_gt hm)) (Int.emod_lt_of_pos _ hm) (B1.set ha) O1.upd
        · refine ⟨_, rfl, b, _, _, 1, rfl, rfl, upd_same, rfl, _, rfl, ?_⟩
          rw [upd_upd]
          exact k _ _ (Int.emod_nonneg _ (Int.ne_of_gt hm)) (Int.emod_lt_of_pos _ hm) (B1.set ha) O1.upd
      · refine ⟨_, rfl, b, _, _, _, rfl, rfl, SqL.of hb, atI_nat (j := 1) rfl, _, _, rfl, rfl, ?_⟩
        refine ⟨_, rfl, b, _, _, 1, rfl, rfl, hb, rfl, ?_⟩
        refine ⟨_, rfl, b, _, _, _, rfl, rfl, SqL.of upd_same, atI_nat (j := 0) rfl, _, _, rfl, rfl, .inr (by decide), ?_⟩
        refine ⟨_, rfl, b, _, _, _, rfl, rfl, SqL.of upd_same, atI_nat (j := 1) rfl, _, _, rfl, rfl, _, _, rfl, rfl, .inl (by decide), _, _, rfl, rfl, .inl ⟨_, rfl, _, _, rfl, rfl, (by show (0 : Int) < 2147483647; decide), ?_⟩⟩
        refine ⟨_, rfl, b, _, _, 0, rfl, rfl, upd_same, rfl, ?_⟩
        refine ⟨_, rfl, b, _, _, _, rfl, rfl, SqL.of upd_same, atI_nat (j := 0) rfl, _, _, rfl, rfl, ⟨by decide, by decide⟩, ?_⟩
        refine ⟨_, rfl, b, _, _, _, rfl, rfl, SqL.of upd_same, atI_nat (j := 0) rfl, _, _, rfl, rfl, .inl ⟨_, rfl, _, _, rfl, rfl, (by show (0 : Int) < 1000003; decide), _, rfl, _, _, rfl, rfl, hm, ?_⟩⟩
        rw [upd_upd]
        exact k _ _ (Int.emod_nonneg _ (Int.ne_of_gt hm)) (Int.emod_lt_of_pos _ hm) (B1.set ha) O1.upd
    obtain ⟨tr, hrest, qrest⟩ := rest
    refine ⟨_, pss_cons (ps_if (pt_cmpR op_eq (pe_ix ix_list (pv 0) pe_int (fun _ _ => rfl)) pe_int (nomark _))
        (pss_cons (ps_set (i := 2) scT.nd rfl (Or.inl rfl) (pe_ix ix_list (pv 0) pe_int (fun _ _ => rfl)))
        (pss_cons (ps_set (i := 3) scT.nd rfl (Or.inl rfl) pe_int)
        (pss_cons (ps_if (pt_cmpR op_lt (pv 2) (pe_callB call_len_seq (by rfl) T.len PySem.boot_len (pa_cons (pe_ix ix_list (pv 0) pe_int (fun _ _ => rfl)) pa_nil)) (nomark _))
            (pss_cons (ps_set (i := 3) scT.nd rfl (Or.inl rfl) (pe_ix ix_list (pe_ix ix_list (pv 0) pe_int (fun _ _ => rfl)) (pv 2) (fun _ _ => rfl)))
            (pss_one (ps_asg (pe_ifExp (pt_cmpR op_ge (pv 3) (pe_op op_pow pe_int pe_int) (nomark _)) pe_int (pe_un un_neg pe_int)) (pg_sub (pv 0) pe_int set_list)))) pss_nil)
        (pss_cons (ps_asg (pe_op op_add (pv 2) pe_int) (pg_sub (pv 0) pe_int set_list))
        (pss_cons (ps_asg (pv 3) (pg_sub (pv 0) pe_int set_list))
        (pss_one (ps_if (pt_cmpR op_eq (pe_ix ix_list (pv 0) pe_int (fun _ _ => rfl)) pe_int (nomark _)) (pss_one (ps_ret pe_int)) pss_nil))))))) pss_nil) hrest, ?_⟩
    obtain ⟨⟨x1, c1, a1, hb, ha⟩, hl⟩ := id B
    refine ⟨_, rfl, b, _, _, _, rfl, rfl, SqL.of hb, atI_nat (j := 1) rfl, rfl, _, rfl, ?_⟩
    refine ite2 (fun _ => ?_) (fun _ => ?_)
    · refine ⟨_, rfl, b, _, _, _, rfl, rfl, SqL.of hb, atI_nat (j := 2) rfl, ?_⟩
      refine ⟨_, rfl, _, rfl, b, _, _, _, rfl, rfl, SqL.of hb, atI_nat (j := 3) rfl, l, _, rfl, .inl (SqL.of hl), _, _, rfl, rfl, _, rfl, ?_⟩
      refine ite2 (fun hlt => ?_) (fun _ => ?_)
      · have hlt' : a1 < ((cs.map V.int).length : Int) := of_decide_eq_true hlt
        obtain ⟨j, rfl⟩ := Int.eq_ofNat_of_zero_le ha
        have hj : j < (cs.map V.int).length := by omega
        have hj2 : j < cs.length := by rw [List.length_map] at hj; exact hj
        refine ⟨_, rfl, b, _, _, _, rfl, rfl, SqL.of hb, atI_nat (j := 3) rfl, _, rfl, l, _, _, .int cs[j], rfl, rfl, SqL.of hl, atI_nat (j := j) (by rw [List.getElem?_map, List.getElem?_eq_getElem hj2]; rfl), ?_⟩
        refine ⟨_, rfl, _, _, rfl, rfl, ⟨by decide, by decide, by decide⟩, _, _, rfl, rfl, _, rfl, ?_⟩
        refine ite2 (fun _ => ?_) (fun _ => ?_)
        · refine ⟨_, rfl, b, _, _, 1, rfl, rfl, hb, rfl, ?_⟩
          refine ⟨_, rfl, _, _, rfl, rfl, _, rfl, b, _, _, 2, rfl, rfl, upd_same, rfl, _, rfl, _, rfl, b, _, _, 0, rfl, rfl, upd_same, rfl, ?_⟩
          refine ⟨_, rfl, b, _, _, _, rfl, rfl, SqL.of upd_same, atI_nat (j := 1) rfl, rfl, _, rfl, ?_⟩
          refine ite2 (fun z => absurd z (by decide)) (fun _ => ?_)
          rw [upd_upd, upd_upd]
          exact qrest _ _ _ _ (B.set (by omega)) (Off.refl _ _).upd
        · refine ⟨_, rfl, ?_⟩
          refine ⟨_, rfl, b, _, _, 1, rfl, rfl, hb, rfl, ?_⟩
          refine ⟨_, rfl, _, _, rfl, rfl, _, rfl, b, _, _, 2, rfl, rfl, upd_same, rfl, _, rfl, _, rfl, b, _, _, 0, rfl, rfl, upd_same, rfl, ?_⟩
          refine ⟨_, rfl, b, _, _, _, rfl, rfl, SqL.of upd_same, atI_nat (j := 1) rfl, rfl, _, rfl, ?_⟩
          refine ite2 (fun z => absurd z (by decide)) (fun _ => ?_)
          rw [upd_upd, upd_upd]
          exact qrest _ _ _ _ (B.set (by omega)) (Off.refl _ _).upd
      · refine ⟨_, rfl, _, _, rfl, rfl, _, rfl, b, _, _, 2, rfl, rfl, hb, rfl, _, rfl, _, rfl, b, _, _, 0, rfl, rfl, upd_same, rfl, ?_⟩
        refine ⟨_, rfl, b, _, _, _, rfl, rfl, SqL.of upd_same, atI_nat (j := 1) rfl, rfl, _, rfl, ?_⟩
        refine ite2 (fun _ => ?_) (fun _ => ?_)
        · rw [upd_upd]
          exact k 0 _ (by decide) hm (B.set (by omega)) (Off.refl _ _).upd
        · rw [upd_upd]
          exact qrest _ _ _ _ (B.set (by omega)) (Off.refl _ _).upd
    · exact qrest _ _ _ _ B (Off.refl _ _)
theorem scK : FnScope ["box", "menu"] ["box", "menu"] (defScope sPick) := ⟨rfl, rfl, rfl, by decide +kernel, rfl, by decide +kernel, by decide +kernel⟩
theorem ok_pick {f fT : Addr} {fd fdT : FuncData} (F : Fun K "_law_pick" "_law_pick" sPick f fd) (T : Txt mg) (FT : Fun K "_law_take" "_law_take" sTake fT fdT) (bT : Binds K fdT ["box", "m"] []) (mgT : mg "_law_take" = some (.ref fT)) :
    FnOk P w K mg base CX0 2 f fd ["box", "menu"] spPick := by
  refine F.ok scK (fun vs H Q E h => ?_) (fun cdv A outer s H vs Q E hr h => ?_)
  · obtain ⟨b, l, q, cs, xs, rfl, _⟩ := h
    rfl
  · obtain ⟨b, l, q, cs, xs, rfl, B, hq, nqb, h1, h2, k⟩ := h
    have GT : FnOk P w K mg base CX0 1 fT fdT ["box", "m"] spTake := ok_take FT T
    refine ⟨_, pss_one (ps_ret (pe_ix ix_list (pv 1) (pe_call GT hr rfl mgT FT.kp bT .nil pass0 (pa_cons (pv 0) (pa_cons (pe_callB call_len_seq (by rfl) T.len PySem.boot_len (pa_cons (pv 1) pa_nil)) pa_nil))) (fun _ _ => rfl))), ?_⟩
    refine ⟨_, rfl, _, rfl, _, rfl, q, _, rfl, .inl (SqL.of hq), b, l, cs, _, rfl, B, by omega, by omega, fun r H' r0 r1 B' O' => ?_⟩
    obtain ⟨j, rfl⟩ := Int.eq_ofNat_of_zero_le r0
    have hj : j < xs.length := by omega
    exact ⟨q, _, _, xs[j], rfl, rfl, SqL.of (O' q _ hq nqb), atI_nat (by rw [List.getElem?_eq_getElem hj]), k _ _ (List.getElem_mem hj) B' O'⟩

end
end Bx2
end
section
set_option Elab.async false
set_option linter.all false
set_option maxRecDepth 100000
set_option maxHeartbeats 1000000
/-! Readings with the law's box. -/
namespace L3
open PySem PySem.Spec PyProof.Rows L2 Mx So Gd Bx
theorem LaysB.but {S S' : Sto} (h : But S S') : LaysB .box S S' := ⟨fun d n _ => h d n, fun d n _ => h d n⟩
/-- a number of that kind; only the box is changed, things are laid -/
def YE (u : TE3) (σ : St3) (Pr : Int → Prop) : Prop := ∀ (S : Sto) (Q : K3), BoxOn S → (∀ x S', Pr x → BoxOn S' → LaysB .box S S' → Q (.d (.int x)) S') → u σ S Q
def YA (ua : TA3) (σ : St3) (n : Nat) (Pr : Int → Prop) : Prop := ∀ (S : Sto) (Q : List Im → Sto → Prop), BoxOn S → (∀ (xs : List Int) S', xs.length = n → (∀ x ∈ xs, Pr x) → BoxOn S' → LaysB .box S S' → Q (xs.map fun x => .d (.int x)) S') → ua σ S Q
section
variable {σ : St3} {Pr Pr' : Int → Prop} {u v : TE3} {ua : TA3} {n : Nat}
theorem ye_c {i : Int} (h : Pr i) : YE (uC (.int i)) σ Pr := fun S Q b k => k i S h b (LaysB.refl _ _)
theorem ye_var {j : Nat} {i : Int} (hj : σ[j]? = some (some (.d (.int i)))) (h : Pr i) : YE (uVar j) σ Pr := fun S Q b k => ⟨_, hj, k i S h b (LaysB.refl _ _)⟩
theorem ye_take {m : Int} (hσ : σ[0]? = some (some (.l .box))) (h0 : 0 < m) (h1 : m < 1073741824) (hm : ∀ (S : Sto) (R : K3), R (.d (.int m)) S → v σ S R) (h : ∀ r, 0 ≤ r → r < m → Pr r) : YE (uCall s3Take (uCons (uVar 0) (uCons v uNil))) σ Pr := fun S Q b k =>
  ⟨_, hσ, hm _ _ ⟨m, rfl, b, h0, h1, fun r S' r0 r1 b' bt => k r S' (h r r0 r1) b' (LaysB.but bt)⟩⟩
theorem ye_op {r : R3} {g : Int → Int → Int} {Pa Pb : Int → Prop} (hr : ∀ i j S (Q : K3), Pa i → Pb j → Q (.d (.int (g i j))) S → r (.d (.int i)) (.d (.int j)) S Q) (ha : YE u σ Pa) (hb : YE v σ Pb) (h : ∀ i j, Pa i → Pb j → Pr (g i j)) : YE (uOp r u v) σ Pr := fun S Q b k =>
  ha S _ b fun x S1 px b1 l1 => hb S1 _ b1 fun y S2 py b2 l2 => hr x y S2 Q px py (k _ S2 (h x y px py) b2 (l1.trans l2))
theorem ya_nil : YA uNil σ 0 Pr := fun S Q b k => k [] S rfl (fun _ h => nomatch h) b (LaysB.refl _ _)
theorem ya_cons (h : YE u σ Pr) (g : YA ua σ n Pr) : YA (uCons u ua) σ (n + 1) Pr := fun S Q b k =>
  h S _ b fun x S1 px b1 l1 => g S1 _ b1 fun xs S2 hl hx b2 l2 => k (x :: xs) S2 (by rw [List.length_cons, hl]) (fun y hy => by
    rcases List.mem_cons.mp hy with rfl | hy
    · exact px
    · exact hx y hy) b2 (l1.trans l2)
theorem boxOn_new {S : Sto} {p : Addr} {e : Ce} (b : BoxOn S) (h : S (.t p) = none) : BoxOn (S.put (.t p) e) := by
  obtain ⟨x, c, a, cs, h0, h1, h2⟩ := b
  exact ⟨x, c, a, cs, h0, by rw [put_ne (by intro z; cases z)]; exact h1, by rw [put_ne (by intro z; cases z)]; exact h2⟩
theorem boxOn_lays {S S' : Sto} (b : BoxOn S) (l : Lays S S') : BoxOn S' := by
  obtain ⟨x, c, a, cs, h0, h1, h2⟩ := b
  exact ⟨x, c, a, cs, h0, l.at_ h1, l.at_ h2⟩
/-- pick(box, [..]) -/
theorem ye_pick (hσ : σ[0]? = some (some (.l .box))) (h : YA ua σ n Pr) (h0 : 0 < n) (h1 : n < 1000) : YE (uCall s3Pick (uCons (uVar 0) (uCons (uLst ua) uNil))) σ Pr := fun S Q b k =>
  ⟨_, hσ, h S _ b fun xs S1 hl hx b1 l1 => ⟨by rw [List.length_map, hl, sizeLine_eq]; omega, .inl fun p hp =>
    ⟨.t p, _, rfl, boxOn_new b1 hp, put_same, (by intro z; cases z), by rw [List.length_map, hl]; exact h0, by rw [List.length_map, hl]; exact h1, fun it S2 hit b2 bt => by
      obtain ⟨x, hx2, rfl⟩ := List.mem_map.mp hit
      exact k x S2 (hx x hx2) b2 ((l1.new hp).trans (LaysB.but bt))⟩⟩⟩
theorem YE.imp (h : YE u σ Pr) (g : ∀ x, Pr x → Pr' x) : YE u σ Pr' := fun S Q b k => h S Q b fun x S' px => k x S' (g x px)
end
theorem LaysB.set {c : L} {S S1 : Sto} {p : Addr} {e : Ce} (x : LaysB c S S1) (h : S (.t p) = none) : LaysB c S (S1.put (.t p) e) := by
  refine ⟨fun d h1 h2 => (put_ne (h2 p)).trans (x.nt d h1 h2), fun d h1 h2 => ?_⟩
  have ne : d ≠ .t p := by
    rintro rfl
    exact h2 h
  exact (put_ne ne).trans (x.ex d h1 h2)
theorem fresh_box {S S1 : Sto} {p : Addr} (hp : S1 (.t p) = none) (l : LaysB .box S S1) : S (.t p) = none := by
  cases q : S (.t p) with
  | none => rfl
  | some u =>
    rw [l.at_ q (by intro z; cases z)] at hp
    cases hp
theorem boxOn_set {S : Sto} {p : Addr} {e : Ce} (b : BoxOn S) (h : S (.t p) ≠ S .cells ∨ (.t p : L) ≠ .cells) : BoxOn (S.put (.t p) e) := by
  obtain ⟨x, c, a, cs, h0, h1, h2⟩ := b
  exact ⟨x, c, a, cs, h0, by rw [put_ne (by intro z; cases z)]; exact h1, by rw [put_ne (by intro z; cases z)]; exact h2⟩
theorem boxOn_t {S : Sto} {p : Addr} {e : Ce} (b : BoxOn S) : BoxOn (S.put (.t p) e) := boxOn_set b (.inr (by intro z; cases z))
end L3
end
section
set_option Elab.async false
set_option linter.all false
set_option maxRecDepth 100000
set_option maxHeartbeats 1000000
/-! law_k02: a setup is drawn. -/
namespace Lw
open PySem PySem.Spec PyProof.Rows L2 Mx So L3 St Mc Bx Pg
def top (i : Nat) : Stmt := PySem.Challenge.pw_acquit_k02_what_is_a_setup.main.body.getD i (.Pass ⟨0, 0, 0, 0⟩)
/-- a setup by its numbers -/
structure OkS (is : List (List Int)) (as : List Int) (sh fe : Int) : Prop where
  i1 : 1 ≤ is.length
  i2 : is.length ≤ 2
  ib : ∀ b ∈ is, 1 ≤ b.length ∧ b.length ≤ 3 ∧ ∀ x ∈ b, 0 ≤ x ∧ x ≤ 1000000000
  a1 : 1 ≤ as.length
  a2 : as.length ≤ 2
  ab : ∀ x ∈ as, 1 ≤ x ∧ x ≤ 3
  s1 : 0 ≤ sh
  s2 : sh ≤ 300
  f1 : sh ≤ fe
  f2 : fe ≤ 500
def suD (is : List (List Int)) (as : List Int) (sh fe : Int) : PyData := .tuple [.tuple (is.map intsD), .tuple (as.map .int), .int sh, .int fe]
section
variable {P : Program} {w : World} {K : PySem.W.Frag} {mg : Str → Option Value} {base : Heap}
abbrev sSet : Stmt := top 57
theorem scSet : FnScope ["box", "issuers", "j", "amounts", "h", "acquirers", "i", "share"] ["box"] (defScope sSet) := ⟨rfl, rfl, rfl, by decide +kernel, rfl, by decide +kernel, by decide +kernel⟩
def spSet : Sp3 := fun its S Q _ => its = [.l .box] ∧ BoxOn S ∧ ∀ S' is as sh fe, LaysB .box S S' → BoxOn S' → OkS is as sh fe → Q (.d (suD is as sh fe)) S'
def intsI (xs : List Int) : List Im := xs.map fun x => .d (.int x)
theorem datas_ints : ∀ xs : List Int, datas (intsI xs) = some (xs.map .int)
  | [] => rfl
  | x :: xs => by
    show (datas (intsI xs)).map (PyData.int x :: ·) = _
    rw [datas_ints xs]
    rfl
theorem datas_d : ∀ ds : List PyData, datas (ds.map Im.d) = some ds
  | [] => rfl
  | d :: ds => by
    show (datas (ds.map Im.d)).map (d :: ·) = _
    rw [datas_d ds]
    rfl
/-- range(e) -/
theorem wr_ye {ua : TA3} {σ : St3} {S : Sto} {R : Wk → Sto → Prop} {Pr : Int → Prop} (h : YA ua σ 1 Pr) (b : BoxOn S) (hp : ∀ x, Pr x → 0 ≤ x ∧ x < 1000) (k : ∀ (n : Nat) S', Pr n → BoxOn S' → LaysB .box S S' → R ⟨n, fun i it => it = .d (.int i), fun _ => True⟩ S') : wR ua σ S R := by
  refine h S _ b fun xs S1 hl hx b1 l1 => ?_
  match xs, hl with
  | [x], _ =>
    have px := hx x (List.mem_singleton.mpr rfl)
    have e := hp x px
    have ex : ((x.toNat : Nat) : Int) = x := by omega
    refine ⟨x.toNat, ?_, ?_, k x.toNat S1 (by rw [ex]; exact px) b1 l1⟩
    · rw [ex]
      rfl
    · rw [ex]
      have := e.2
      omega
/-- [e for i in range(n)], numbers -/
theorem lc_box {ua : TA3} {te : TE3} {j : Nat} {vs : List Nat} {σ : St3} {S : Sto} {Q : K3} {Pr P2 : Int → Prop} (h : YA ua σ 1 Pr) (b : BoxOn S) (hp : ∀ x, Pr x → 0 ≤ x ∧ x < 1000) (ht : ∀ i : Int, YE te ((wipe3 σ vs).set j (some (.d (.int i)))) P2)
    (k : ∀ (xs : List Int) S' p, Pr xs.length → (∀ x ∈ xs, P2 x) → BoxOn S' → LaysB .box S S' → S (.t p) = none → S' (.t p) = some (.lst (intsI xs)) → Q (.l (.t p)) S') : uLc (wR ua) (.one j) uYes te vs σ S Q := by
  refine wr_ye h b hp fun n S1 hn b1 l1 => .inl fun p hp1 => ?_
  have z := fresh_box hp1 l1
  refine ⟨fun m S' => ∃ xs : List Int, xs.length = m ∧ (∀ x ∈ xs, P2 x) ∧ S' (.t p) = some (.lst (intsI xs)) ∧ BoxOn S' ∧ LaysB .box S S', ⟨[], rfl, (fun _ h => nomatch h), put_same, boxOn_t b1, l1.set z⟩, fun _ _ _ _ => trivial, ?_, ?_⟩
  · rintro m it S' hm rfl ⟨xs, hl, hx, e, b2, l2⟩
    refine ⟨_, rfl, yes3 ?_⟩
    refine ht m S' _ b2 fun x S4 px b4 l4 => ?_
    have e4 := l4.at_ e (by intro z; cases z)
    refine ⟨_, e4, ?_, xs ++ [x], by rw [List.length_append, hl]; rfl, fun y hy => ?_, ?_, boxOn_t b4, (l2.trans l4).set z⟩
    · have hm' : m < n := hm
      have := (hp n hn).2
      unfold intsI
      rw [List.length_map, hl, sizeLine_eq]
      omega
    · rcases List.mem_append.mp hy with hy | hy
      · exact hx y hy
      · obtain rfl := List.mem_singleton.mp hy
        exact px
    · rw [put_same]
      unfold intsI
      rw [List.map_append]
      rfl
  · rintro S' ⟨xs, hl, hx, e, b2, l2⟩
    have hl' : xs.length = n := hl
    exact k xs S' p (by rw [hl']; exact hn) hx b2 l2 z e
theorem r_add {i j : Int} {S : Sto} {Q : K3} (h : Q (.d (.int (i + j))) S) : oI0 (fun i j => .int (i + j)) (.d (.int i)) (.d (.int j)) S Q := ⟨i, j, rfl, rfl, h⟩
theorem r_sub {i j : Int} {S : Sto} {Q : K3} (h : Q (.d (.int (i - j))) S) : oI0 (fun i j => .int (i - j)) (.d (.int i)) (.d (.int j)) S Q := ⟨i, j, rfl, rfl, h⟩
/-- lo + take(box, m) -/
theorem ye_at {σ : St3} {u v : TE3} {lo m : Int} {Pr : Int → Prop} (hσ : σ[0]? = some (some (.l .box))) (hu : YE u σ (fun x => x = lo)) (h0 : 0 < m) (h1 : m < 1073741824) (hm : ∀ (S : Sto) (R : K3), R (.d (.int m)) S → v σ S R) (h : ∀ r, lo ≤ r → r < lo + m → Pr r) :
    YE (uOp (oI0 fun i j => .int (i + j)) u (uCall s3Take (uCons (uVar 0) (uCons v uNil)))) σ Pr :=
  ye_op (Pa := fun x => x = lo) (Pb := fun x => 0 ≤ x ∧ x < m) (g := fun i j => i + j) (fun i j S Q _ _ q => r_add q) hu (ye_take hσ h0 h1 hm fun r r0 r1 => ⟨r0, r1⟩) (fun i j hi hj => h _ (by rw [hi]; omega) (by rw [hi]; omega))
theorem ok_set {f fT fP : Addr} {fd fdT fdP : FuncData} (F : Fun K "_law_setup" "_law_setup" sSet f fd) (mr : mg "range" = none) (mt : mg "tuple" = none)
    (GT : FnOk P w K mg base (LT.CX P w) 1 fT fdT ["box", "m"] (spOf P w s3Take)) (bT : Binds K fdT ["box", "m"] []) (mT : mg "_law_take" = some (.ref fT)) (kT : PySem.W.keepIn K (.ref fT) = true)
    (GP : FnOk P w K mg base (LT.CX P w) 2 fP fdP ["box", "menu"] (spOf P w s3Pick)) (bP : Binds K fdP ["box", "menu"] []) (mP : mg "_law_pick" = some (.ref fP)) (kP : PySem.W.keepIn K (.ref fP) = true) :
    FnOk P w K mg base (LT.CX P w) 3 f fd ["box"] (spOf P w spSet) := by
  refine ok3 F scSet (fun its St Q E h => ?_) (fun cdv A outer s H E E3 hr => ?_)
  · obtain ⟨rfl, _⟩ := h
    rfl
  have hr1 : Room 1 _ := hr.mono (by decide)
  refine ⟨_, ss_cons (s3_set (i := 1) scSet.nd rfl (Or.inl rfl) (e3_lst a3_nil))
    (ss_cons (s3_for (passes_of rfl) rfl (i3_range rfl mr (a3_cons (e3_op op_add (up_I0 fun _ _ _ => .int _) e3_int (e3_call GT hr1 rfl mT kT bT (a3_cons (v3 0) (a3_cons e3_int a3_nil)))) a3_nil)) (g3_name (i := 2) scSet.nd rfl (Or.inl rfl))
      (ss_cons (s3_set (i := 3) scSet.nd rfl (Or.inl rfl) (e3_lst a3_nil))
      (ss_cons (s3_for (passes_of rfl) rfl (i3_range rfl mr (a3_cons (e3_op op_add (up_I0 fun _ _ _ => .int _) e3_int (e3_call GT hr1 rfl mT kT bT (a3_cons (v3 0) (a3_cons e3_int a3_nil)))) a3_nil)) (g3_name (i := 4) scSet.nd rfl (Or.inl rfl))
        (ss_one (s3_expr (e3_app (v3 3) (a3_cons (e3_call GP hr rfl mP kP bP (a3_cons (v3 0) (a3_cons (e3_lst (a3_cons e3_int (a3_cons e3_int (a3_cons (e3_op op_add (up_I0 fun _ _ _ => .int _) e3_int (e3_call GT hr1 rfl mT kT bT (a3_cons (v3 0) (a3_cons e3_int a3_nil))))
          (a3_cons (e3_op op_pow (up_I fun _ _ _ => .int _) e3_int e3_int) (a3_cons (e3_op op_add (up_I0 fun _ _ _ => .int _) (e3_op op_mul (up_I fun _ _ _ => .int _) e3_int (e3_call GT hr1 rfl mT kT bT (a3_cons (v3 0) (a3_cons e3_int a3_nil)))) (e3_call GT hr1 rfl mT kT bT (a3_cons (v3 0) (a3_cons e3_int a3_nil))))
          (a3_cons (e3_call GT hr1 rfl mT kT bT (a3_cons (v3 0) (a3_cons e3_int a3_nil))) a3_nil))))))) a3_nil))) a3_nil)))))
      (ss_one (s3_expr (e3_app (v3 1) (a3_cons (e3_tupOf rfl mt (by decide +kernel) (a3_cons (v3 3) a3_nil)) a3_nil)))))))
    (ss_cons (s3_set (i := 5) scSet.nd rfl (Or.inl rfl) (e3_tupOf rfl mt (by decide +kernel) (a3_cons (e3_lc (own := [("i", 6)]) (g := .one 6) rfl scSet.nd (i3_range rfl mr (a3_cons (e3_op op_add (up_I0 fun _ _ _ => .int _) e3_int (e3_call GT hr1 rfl mT kT bT (a3_cons (v3 0) (a3_cons e3_int a3_nil)))) a3_nil)) (blkOk_by (N := ["box", "issuers", "j", "amounts", "h", "acquirers", "i", "share"]) (sc := defScope sSet) (by decide +kernel)) (fun j hj => hj)
      (fun _ _ _ _ _ => b3_one (i := 6) scSet.nd rfl (Or.inl rfl)) (fun _ _ _ _ _ => ts3_nil) (fun _ _ _ _ _ => by exact e3_op op_add (up_I0 fun _ _ _ => .int _) e3_int (e3_call GT hr1 (by rfl) mT kT bT (a3_cons (v3 0) (a3_cons e3_int a3_nil))))) a3_nil)))
    (ss_cons (s3_set (i := 7) scSet.nd rfl (Or.inl rfl) (e3_call GP hr rfl mP kP bP (a3_cons (v3 0) (a3_cons (e3_lst (a3_cons e3_int (a3_cons e3_int (a3_cons (e3_op op_add (up_I0 fun _ _ _ => .int _) e3_int (e3_call GT hr1 rfl mT kT bT (a3_cons (v3 0) (a3_cons e3_int a3_nil)))) (a3_cons (e3_call GT hr1 rfl mT kT bT (a3_cons (v3 0) (a3_cons e3_int a3_nil))) a3_nil))))) a3_nil))))
    (ss_one (s3_ret (e3_tup (a3_cons (e3_tupOf rfl mt (by decide +kernel) (a3_cons (v3 1) a3_nil)) (a3_cons (v3 5) (a3_cons (v3 7) (a3_cons (e3_call GP hr rfl mP kP bP (a3_cons (v3 0) (a3_cons (e3_lst (a3_cons (v3 7) (a3_cons e3_int (a3_cons (e3_op op_add (up_I0 fun _ _ _ => .int _) (v3 7) (e3_call GT hr1 rfl mT kT bT (a3_cons (v3 0) (a3_cons (e3_op op_sub (up_I0 fun _ _ _ => .int _) e3_int (v3 7)) a3_nil)))) a3_nil)))) a3_nil))) a3_nil)))))))))), ?_⟩
  rintro its St Q ⟨rfl, hb, q⟩
  have cst : ∀ (m : Int) (σ : St3) (S : Sto) (R : K3), R (.d (.int m)) S → uC (.int m) σ S R := fun _ _ _ _ r => r
  refine ⟨Nat.zero_le _, .inl fun p hp => ?_⟩
  have b1 := boxOn_new (e := .lst []) hb hp
  have l1 : LaysB .box St (St.put (.t p) (.lst [])) := (LaysB.refl _ _).new hp
  have e1 : (St.put (.t p) (.lst [])) (.t p) = some (.lst []) := put_same
  have npb : (.t p : L) ≠ .box := by intro z; cases z
  have z1 : St (.t p) = none := hp
  try dsimp only [uSeq, uFor, uAsg, uDrop, kName]
  refine wr_ye (Pr := fun x => 1 ≤ x ∧ x ≤ 2) (by exact ya_cons (ye_at (lo := 1) rfl (ye_c rfl) (by decide) (by decide) (cst 2 _) (fun r r0 r1 => ⟨r0, by omega⟩)) ya_nil) b1 (fun x hx => ⟨by omega, by omega⟩) fun n S2 hn b2 l2 => ?_
  have e2 := l2.at_ e1 npb
  have l12 := l1.trans l2
  refine ⟨fun m σ S => ∃ (a b c d e f : Option Im) (iss : List (List Int)), σ = [some (.l .box), some (.l (.t p)), a, b, c, d, e, f] ∧ iss.length = m ∧ (∀ x ∈ iss, 1 ≤ x.length ∧ x.length ≤ 3 ∧ ∀ y ∈ x, 0 ≤ y ∧ y ≤ 1000000000) ∧ S (.t p) = some (.lst ((iss.map intsD).map .d)) ∧ LaysB .box St S ∧ BoxOn S,
    ⟨none, none, none, none, none, none, [], rfl, rfl, (fun _ h => nomatch h), e2, l12, b2⟩, fun _ _ _ _ _ => trivial, ?_, ?_⟩
  · rintro m it σ S hm rfl ⟨a, b, c, d, e, f, iss, rfl, hl, hiss, hS, l3, b3⟩
    refine ⟨Nat.zero_le _, .inl fun p4 hp4 => ?_⟩
    have b4 := boxOn_new (e := .lst []) b3 hp4
    have l4 : LaysB .box St (S.put (.t p4) (.lst [])) := l3.new hp4
    have e4 : (S.put (.t p4) (.lst [])) (.t p4) = some (.lst []) := put_same
    have n4 : (.t p : L) ≠ .t p4 := by
      intro z
      rw [z, hp4] at hS
      cases hS
    have z4 := fresh_box hp4 l3
    have f4 : (S.put (.t p4) (.lst [])) (.t p) = some (.lst ((iss.map intsD).map .d)) := (put_ne n4).trans hS
    try dsimp only [uSeq, uFor, uAsg, uDrop, kName]
    refine wr_ye (Pr := fun x => 1 ≤ x ∧ x ≤ 3) (by exact ya_cons (ye_at (lo := 1) rfl (ye_c rfl) (by decide) (by decide) (cst 3 _) (fun r r0 r1 => ⟨r0, by omega⟩)) ya_nil) b4 (fun x hx => ⟨by omega, by omega⟩) fun n5 S5 hn5 b5 l5 => ?_
    have nb4 : (.t p4 : L) ≠ .box := by intro z; cases z
    refine ⟨fun m5 σ S => ∃ (a c d e f : Option Im) (am : List Int), σ = [some (.l .box), some (.l (.t p)), a, some (.l (.t p4)), c, d, e, f] ∧ am.length = m5 ∧ (∀ y ∈ am, 0 ≤ y ∧ y ≤ 1000000000) ∧ S (.t p4) = some (.lst (intsI am)) ∧ S (.t p) = some (.lst ((iss.map intsD).map .d)) ∧ LaysB .box St S ∧ BoxOn S,
      ⟨_, c, d, e, f, [], rfl, rfl, (fun _ h => nomatch h), l5.at_ e4 nb4, l5.at_ f4 npb, l4.trans l5, b5⟩, fun _ _ _ _ _ => trivial, ?_, ?_⟩
    · rintro m6 it6 σ6 S6 hm6 rfl ⟨a6, c6, d6, e6, f6, am, rfl, hl6, ham, g6, h6, l6, b6⟩
      refine ⟨_, rfl, ⟨.t p4, _, rfl, g6⟩, ?_⟩
      refine ye_pick (n := 6) (Pr := fun x => 0 ≤ x ∧ x ≤ 1000000000) rfl (by exact ya_cons (ye_c (by decide)) (ya_cons (ye_c (by decide)) (ya_cons (ye_at (lo := 50) rfl (ye_c rfl) (by decide) (by decide) (cst 400 _) (fun r r0 r1 => ⟨by omega, by omega⟩))
        (ya_cons (ye_op (Pa := fun x => x = 10) (Pb := fun x => x = 9) (g := fun i j => i ^ j.toNat) (fun i j S Q hi hj q => by subst hi hj; exact ⟨10, 9, rfl, rfl, ⟨by decide, by decide, by decide⟩, q⟩) (ye_c rfl) (ye_c rfl) (fun i j hi hj => by subst hi hj; decide))
        (ya_cons (ye_op (Pa := fun x => 0 ≤ x ∧ x ≤ 999999000) (Pb := fun x => 0 ≤ x ∧ x < 1000) (g := fun i j => i + j) (fun i j S Q _ _ q => r_add q)
            (ye_op (Pa := fun x => x = 1000) (Pb := fun x => 0 ≤ x ∧ x < 1000000) (g := fun i j => i * j) (fun i j S Q hi _ q => by subst hi; exact ⟨1000, j, rfl, rfl, .inl ⟨by decide, by decide⟩, q⟩) (ye_c rfl) (ye_take rfl (by decide) (by decide) (cst 1000000 _) fun r r0 r1 => ⟨r0, r1⟩) (fun i j hi hj => by subst hi; omega))
            (ye_take rfl (by decide) (by decide) (cst 1000 _) fun r r0 r1 => ⟨r0, r1⟩) (fun i j hi hj => by omega))
        (ya_cons (ye_take rfl (by decide) (by decide) (cst 10000 _) fun r r0 r1 => ⟨r0, by omega⟩) ya_nil)))))) (by decide) (by decide) S6 _ b6 fun x S7 hx b7 l7 => ?_
      have g7 := l7.at_ g6 nb4
      have h7 := l7.at_ h6 npb
      refine ⟨.t p4, _, _, rfl, rfl, g7, ?_, ?_⟩
      · have hm6' : m6 < n5 := hm6
        unfold intsI
        rw [List.length_map, hl6, sizeLine_eq]
        omega
      · have l67 := l6.trans l7
        refine ⟨_, _, d6, e6, f6, am ++ [x], rfl, by rw [List.length_append, hl6]; rfl, fun y hy => ?_, ?_, (put_ne n4).trans h7, ?_, ?_⟩
        · rcases List.mem_append.mp hy with hy | hy
          · exact ham y hy
          · obtain rfl := List.mem_singleton.mp hy
            exact hx
        · rw [put_same]
          unfold intsI
          rw [List.map_append]
          rfl
        · exact l67.set z4
        · exact boxOn_t b7
    · rintro σ6 S6 ⟨a6, c6, d6, e6, f6, am, rfl, hl6, ham, g6, h6, l6, b6⟩
      refine ⟨_, rfl, ⟨.t p, _, rfl, h6⟩, ?_⟩
      refine ⟨_, rfl, _, rfl, .inl ⟨.t p4, _, _, rfl, g6, datas_ints am, .t p, _, _, rfl, rfl, h6, ?_, ?_⟩⟩
      · have hm' : m < n := hm
        rw [List.length_map, List.length_map, hl, sizeLine_eq]
        omega
      · refine ⟨_, _, c6, d6, e6, f6, iss ++ [am], rfl, by rw [List.length_append, hl]; rfl, fun x hx => ?_, ?_, l6.set z1, boxOn_t b6⟩
        · rcases List.mem_append.mp hx with hx | hx
          · exact hiss x hx
          · obtain rfl := List.mem_singleton.mp hx
            have h51 := hn5.1
            have h52 := hn5.2
            have hl7 : x.length = n5 := hl6
            exact ⟨by omega, by omega, ham⟩
        · rw [put_same, List.map_append, List.map_append]
          rfl
  · rintro σ S ⟨a, b, c, d, e, f, iss, rfl, hl, hiss, hS, l3, b3⟩
    have hn1 := hn.1
    have hn2 := hn.2
    have hln : iss.length = n := hl
    try dsimp only [uSeq, uAsg, uCB, uCons, kName, Blk.any]
    refine lc_box (Pr := fun x => 1 ≤ x ∧ x ≤ 2) (P2 := fun x => 1 ≤ x ∧ x ≤ 3) (by exact ya_cons (ye_at (lo := 1) rfl (ye_c rfl) (by decide) (by decide) (cst 2 _) (fun r r0 r1 => ⟨r0, by omega⟩)) ya_nil) b3 (fun x hx => ⟨by omega, by omega⟩)
      (fun i => by exact ye_at (lo := 1) rfl (ye_c rfl) (by decide) (by decide) (cst 3 _) (fun r r0 r1 => ⟨r0, by omega⟩)) fun as S5 p5 ha1 ha2 b5 l5 z5 e5 => ?_
    have hS5 := l5.at_ hS npb
    refine ⟨_, rfl, .inl ⟨.t p5, _, _, rfl, e5, datas_ints as, ?_⟩⟩
    try dsimp only [uSeq, uAsg, uCB, uCons, kName, Blk.any]
    refine ye_pick (n := 4) (Pr := fun x => 0 ≤ x ∧ x ≤ 300) rfl (by exact ya_cons (ye_c (by decide)) (ya_cons (ye_c (by decide)) (ya_cons (ye_at (lo := 100) rfl (ye_c rfl) (by decide) (by decide) (cst 150 _) (fun r r0 r1 => ⟨by omega, by omega⟩)) (ya_cons (ye_take rfl (by decide) (by decide) (cst 301 _) fun r r0 r1 => ⟨r0, by omega⟩) ya_nil)))) (by decide) (by decide) S5 _ b5 fun sh S6 hsh b6 l6 => ?_
    have hS6 := l6.at_ hS5 npb
    refine ⟨_, rfl, _, rfl, .inl ⟨.t p, _, _, rfl, hS6, datas_d _, ?_⟩⟩
    refine ⟨_, rfl, _, rfl, ?_⟩
    refine ye_pick (n := 3) (Pr := fun x => sh ≤ x ∧ x ≤ 500) rfl (by exact ya_cons (ye_var rfl ⟨by omega, by omega⟩) (ya_cons (ye_c ⟨by omega, by omega⟩) (ya_cons (ye_op (Pa := fun x => x = sh) (Pb := fun x => 0 ≤ x ∧ x < 501 - sh) (g := fun i j => i + j) (fun i j S Q _ _ q => r_add q) (ye_var rfl rfl)
      (ye_take rfl (by omega) (by omega) (fun S R r => ⟨_, rfl, 501, sh, rfl, rfl, r⟩) fun r r0 r1 => ⟨r0, r1⟩) (fun i j hi hj => by subst hi; omega)) ya_nil))) (by decide) (by decide) S6 _ b6 fun fe S7 hfe b7 l7 => ?_
    refine ⟨_, rfl, by show 4 ≤ sizeLine; decide, q S7 iss as sh fe (((l3.trans l5).trans l6).trans l7) b7 ⟨by omega, by omega, hiss, by omega, by omega, ha2, hsh.1, hsh.2, hfe.1, hfe.2⟩⟩
end
end Lw
end
section
set_option Elab.async false
set_option linter.all false
set_option maxRecDepth 100000
set_option maxHeartbeats 1000000
/-! Names, nodes and rows as data: == and in. -/
namespace Mc
open PySem PySem.Spec PyProof.Rows L2 Mx So L3
theorem shaped_nm (n : Nm) : SeqAt.shaped (nmD n) = true := by simp [SeqAt.shaped, nmD, nI, PyData.canLay0, PyData.canLayAll0, PyData.depth, PyData.depthAll]
theorem sw_ok : PyData.strOk "switch" = true ∧ PyData.strOk "acquirer" = true ∧ PyData.strOk "issuer" = true := by decide +kernel
theorem shaped_nd (n : Nd) : SeqAt.shaped (ndD n) = true := by
  cases n <;> simp [SeqAt.shaped, ndD, nI, PyData.canLay0, PyData.canLayAll0, PyData.depth, PyData.depthAll, sw_ok]
theorem nat_beq (i j : Nat) : ((i : Int) == (j : Int)) = decide (i = j) := by
  by_cases h : i = j
  · subst h
    simp
  · have h' : ¬ (i : Int) = (j : Int) := fun z => h (Int.ofNat.inj z)
    rw [decide_eq_false h]
    exact beq_eq_false_iff_ne.mpr h'
theorem eqv_nm (a b : Nm) : PyData.eqv (nmD a) (nmD b) = decide (a = b) := by
  obtain ⟨a1, a2⟩ := a
  obtain ⟨b1, b2⟩ := b
  simp only [nmD, nI, PyData.eqv, PyData.eqvAll, Prod.mk.injEq, Bool.and_true, nat_beq]
  by_cases h1 : a1 = b1 <;> by_cases h2 : a2 = b2 <;> simp [h1, h2]
theorem eqv_nd (a b : Nd) : PyData.eqv (ndD a) (ndD b) = decide (a = b) := by
  have e1 : (("acquirer" : Str) == "issuer") = false := by decide
  have e2 : (("issuer" : Str) == "acquirer") = false := by decide
  cases a with
  | sw => cases b <;> simp [ndD, PyData.eqv, PyData.eqvAll]
  | acq i =>
    cases b with
    | sw => simp [ndD, PyData.eqv, PyData.eqvAll]
    | acq j =>
      simp only [ndD, nI, PyData.eqv, PyData.eqvAll, nat_beq, beq_self_eq_true, Bool.true_and, Bool.and_true, Nd.acq.injEq]
    | iss j => simp [ndD, nI, PyData.eqv, PyData.eqvAll, e1]
  | iss i =>
    cases b with
    | sw => simp [ndD, PyData.eqv, PyData.eqvAll]
    | iss j =>
      simp only [ndD, nI, PyData.eqv, PyData.eqvAll, nat_beq, beq_self_eq_true, Bool.true_and, Bool.and_true, Nd.iss.injEq]
    | acq j => simp [ndD, nI, PyData.eqv, PyData.eqvAll, e2]
theorem shaped_all {α : Type} {f : α → PyData} (h : ∀ x, SeqAt.shaped (f x) = true) (d : ∀ x, (f x).depth ≤ 63) : ∀ xs : List α, SeqAt.shaped (.list (xs.map f)) = true := by
  intro xs
  have c : ∀ xs : List α, PyData.canLayAll0 (xs.map f) = true ∧ PyData.depthAll (xs.map f) ≤ 63 := by
    intro xs
    induction xs with
    | nil => exact ⟨by simp [PyData.canLayAll0], by simp [PyData.depthAll]⟩
    | cons x xs ih =>
      have hx := SeqAt.canLay_of_shaped (h x)
      have dx := d x
      refine ⟨by simp [PyData.canLayAll0, hx, ih.1], ?_⟩
      simp only [List.map_cons, PyData.depthAll]
      have := ih.2
      omega
  obtain ⟨c1, c2⟩ := c xs
  unfold SeqAt.shaped
  rw [Bool.and_eq_true, decide_eq_true_iff]
  refine ⟨by simpa [PyData.canLay0] using c1, ?_⟩
  simp only [PyData.depth]
  omega
theorem any_dec {α : Type} [DecidableEq α] {f : α → PyData} (h : ∀ a b, PyData.eqv (f a) (f b) = decide (a = b)) (x : α) : ∀ xs : List α, (xs.map f).any (fun z => PyData.eqv z (f x)) = decide (x ∈ xs)
  | [] => rfl
  | y :: ys => by
    rw [List.map_cons, List.any_cons, h, any_dec h x ys]
    by_cases e : y = x
    · subst e
      simp
    · have e' : ¬ x = y := fun z => e z.symm
      simp [e, e']
theorem depth_nm (n : Nm) : (nmD n).depth ≤ 63 := by simp [nmD, nI, PyData.depth, PyData.depthAll]
theorem depth_nd (n : Nd) : (ndD n).depth ≤ 63 := by cases n <;> simp [ndD, nI, PyData.depth, PyData.depthAll]
theorem datas_d {α : Type} (f : α → PyData) : ∀ xs : List α, datas (xs.map fun x => Im.d (f x)) = some (xs.map f)
  | [] => rfl
  | x :: xs => by
    show (datas (xs.map fun x => Im.d (f x))).map (f x :: ·) = _
    rw [datas_d f xs]
    rfl
end Mc
namespace Mc
open PySem PySem.Spec PyProof.Rows L2 Mx So L3
section
variable {κ β : Type} [DecidableEq κ]
theorem valI_cons {x : κ × β} {xs : List (κ × β)} {k : κ} : valI (x :: xs) k = if x.1 = k then some x.2 else valI xs k := by
  unfold valI
  rw [List.find?_cons]
  by_cases h : x.1 = k
  · rw [decide_eq_true h, if_pos h]
    rfl
  · rw [decide_eq_false h, if_neg h]
theorem valI_map {k k' : κ} {v : β} : ∀ kvs : List (κ × β), valI (kvs.map fun kv => if kv.1 = k then (kv.1, v) else kv) k' = if k' = k then (if (kvs.any fun kv => decide (kv.1 = k)) = true then some v else none) else valI kvs k'
  | [] => by
    by_cases h : k' = k
    · rw [if_pos h]
      rfl
    · rw [if_neg h]
      rfl
  | x :: xs => by
    rw [List.map_cons, valI_cons, valI_map xs, List.any_cons, valI_cons]
    by_cases h : x.1 = k
    · rw [if_pos h]
      by_cases h2 : k' = k
      · rw [if_pos h2, if_pos h2, if_pos (show x.1 = k' from h.trans h2.symm), decide_eq_true h, Bool.true_or, if_pos rfl]
      · rw [if_neg h2, if_neg h2, if_neg (show ¬ x.1 = k' from fun z => h2 (z.symm.trans h)), if_neg (show ¬ x.1 = k' from fun z => h2 (z.symm.trans h))]
    · rw [if_neg h]
      by_cases h2 : k' = k
      · rw [if_pos h2, if_pos h2, if_neg (show ¬ x.1 = k' from fun z => h (z.trans h2)), decide_eq_false h, Bool.false_or]
      · rw [if_neg h2, if_neg h2]
theorem valI_app {k : κ} {ys : List (κ × β)} : ∀ xs : List (κ × β), valI (xs ++ ys) k = match valI xs k with
    | some v => some v
    | none => valI ys k
  | [] => rfl
  | x :: xs => by
    rw [List.cons_append, valI_cons, valI_cons, valI_app xs]
    by_cases h : x.1 = k
    · rw [if_pos h, if_pos h]
    · rw [if_neg h, if_neg h]
theorem valI_none {k : κ} : ∀ kvs : List (κ × β), (kvs.any fun kv => decide (kv.1 = k)) = (valI kvs k).isSome
  | [] => rfl
  | x :: xs => by
    rw [List.any_cons, valI_cons, valI_none xs]
    by_cases h : x.1 = k
    · rw [if_pos h, decide_eq_true h]
      rfl
    · rw [if_neg h, decide_eq_false h]
      rfl
theorem valI_put {k k' : κ} {v : β} {kvs : List (κ × β)} : valI (putI kvs k v) k' = if k' = k then some v else valI kvs k' := by
  unfold putI
  by_cases c : (kvs.any fun kv => decide (kv.1 = k)) = true
  · rw [if_pos c, valI_map, if_pos c]
  · rw [if_neg c, valI_app, valI_cons]
    have e : valI kvs k = none := by
      rw [valI_none] at c
      cases q : valI kvs k with
      | none => rfl
      | some z =>
        rw [q] at c
        exact (c rfl).elim
    by_cases h : k' = k
    · subst h
      rw [if_pos rfl, if_pos rfl, e]
    · rw [if_neg h, if_neg (show ¬ k = k' from fun z => h z.symm)]
      cases valI kvs k' <;> rfl
/-- the entries by another name -/
theorem map_putI {κ' β' : Type} [DecidableEq κ'] {fk : κ → κ'} {fv : κ → β'} (inj : ∀ a b, fk a = fk b → a = b) (kvs : List (κ × β)) (k : κ) (v : β) : (putI kvs k v).map (fun x => (fk x.1, fv x.1)) = putI (kvs.map fun x => (fk x.1, fv x.1)) (fk k) (fv k) := by
  unfold putI
  have ea : ((kvs.map fun x => (fk x.1, fv x.1)).any fun kv => decide (kv.1 = fk k)) = (kvs.any fun kv => decide (kv.1 = k)) := by
    rw [List.any_map]
    congr 1
    funext x
    show decide (fk x.1 = fk k) = decide (x.1 = k)
    by_cases h : x.1 = k
    · rw [decide_eq_true h, decide_eq_true (by rw [h])]
    · rw [decide_eq_false h, decide_eq_false (fun z => h (inj _ _ z))]
  rw [ea]
  by_cases c : (kvs.any fun kv => decide (kv.1 = k)) = true
  · rw [if_pos c, if_pos c, List.map_map, List.map_map]
    apply List.map_congr_left
    intro x _
    show (fk (if x.1 = k then (x.1, v) else x).1, fv (if x.1 = k then (x.1, v) else x).1) = if fk x.1 = fk k then (fk x.1, fv k) else (fk x.1, fv x.1)
    by_cases h : x.1 = k
    · rw [if_pos h, if_pos (by rw [h]), h]
    · rw [if_neg h, if_neg (fun z => h (inj _ _ z))]
  · rw [if_neg c, if_neg c, List.map_append]
    rfl
theorem valI_mapk {κ' β' : Type} [DecidableEq κ'] {fk : κ → κ'} {fv : κ → β'} (inj : ∀ a b, fk a = fk b → a = b) (k : κ) : ∀ kvs : List (κ × β), valI (kvs.map fun x => (fk x.1, fv x.1)) (fk k) = (valI kvs k).map fun _ => fv k
  | [] => rfl
  | x :: xs => by
    rw [List.map_cons, valI_cons, valI_cons, valI_mapk inj k xs]
    by_cases h : x.1 = k
    · rw [if_pos h, if_pos (show fk x.1 = fk k by rw [h]), h]
      rfl
    · rw [if_neg h, if_neg (show ¬ fk x.1 = fk k from fun z => h (inj _ _ z))]
end
theorem kN_inj (a b : Nm) (h : kN a.1 a.2 = kN b.1 b.2) : a = b := by
  unfold kN at h
  injection h with h1 h2
  injection h2 with h2 _
  injection h1 with h1
  injection h2 with h2
  exact Prod.ext (Int.ofNat.inj h1) (Int.ofNat.inj h2)
theorem Is.get_put {h : Is} {n n' : Nm} {r : Ip} : (h.put n r).get n' = if n' = n then some r else h.get n' := valI_put
end Mc
namespace Mc
open PySem PySem.Spec PyProof.Rows L2 Mx So L3
theorem putI_twice {κ β : Type} [DecidableEq κ] {k : κ} {v w : β} (kvs : List (κ × β)) : putI (putI kvs k v) k w = putI kvs k w := by
  have any1 : ((putI kvs k v).any fun kv => decide (kv.1 = k)) = true := by
    rw [valI_none, valI_put, if_pos rfl]
    rfl
  have e : putI (putI kvs k v) k w = (putI kvs k v).map (fun kv => if kv.1 = k then (kv.1, w) else kv) := by
    show (if _ then _ else _) = _
    rw [if_pos any1]
  rw [e]
  unfold putI
  by_cases c : (kvs.any fun kv => decide (kv.1 = k)) = true
  · rw [if_pos c, if_pos c, List.map_map]
    apply List.map_congr_left
    intro x _
    show (if (if x.1 = k then (x.1, v) else x).1 = k then ((if x.1 = k then (x.1, v) else x).1, w) else (if x.1 = k then (x.1, v) else x)) = _
    by_cases h : x.1 = k
    · simp [h]
    · simp [h]
  · rw [if_neg c, if_neg c, List.map_append]
    have none : ∀ x ∈ kvs, ¬ x.1 = k := by
      intro x hx z
      apply c
      rw [List.any_eq_true]
      exact ⟨x, hx, decide_eq_true z⟩
    have m1 : kvs.map (fun kv => if kv.1 = k then (kv.1, w) else kv) = kvs := (List.map_congr_left (g := id) fun x hx => if_neg (none x hx)).trans (List.map_id _)
    rw [m1, List.map_cons, if_pos rfl]
    rfl
theorem Is.put_put {h : Is} {n : Nm} {r r' : Ip} : (h.put n r).put n r' = h.put n r' := by
  unfold Is.put
  rw [putI_twice]
end Mc
end
section
set_option Elab.async false
set_option linter.all false
set_option maxRecDepth 100000
set_option maxHeartbeats 1000000
namespace L3
open PySem PySem.Spec PyProof.Rows L2 Mx So Gd Bx
section
variable {X : Cx} {Z : ZZ} {a : Expr} {pos : Pos} {th : TE} {u : TE3}
theorem e3_neg (h : PE3 X Z a th u) : PE3 X Z (.UnaryOp .USub a pos) (tUn (rU fun i => .int (-i)) th) (uUn oNeg u) := ⟨pe_un un_neg h.pe, up_un h.up up_neg⟩
end
/-- [f(x) for x in data] -/
theorem lc_dat {wi : TI3} {te : TE3} {j : Nat} {vs : List Nat} {σ : St3} {S : Sto} {Q : K3} {ds : List PyData} {f : PyData → PyData}
    (hi : ∀ R : Wk → Sto → Prop, (∀ W S1, Lays S S1 → W.n = ds.length → (∀ i it, W.item i it → (ds.map Im.d)[i]? = some it) → (∀ S', Lays S1 S' → W.ok S') → R W S1) → wi σ S R) (hl : ds.length < 1000)
    (h : ∀ d ∈ ds, ∀ (S' : Sto) (Q' : K3), Lays S S' → (∀ S4, Lays S' S4 → Q' (.d (f d)) S4) → te ((wipe3 σ vs).set j (some (.d d))) S' Q')
    (k : ∀ (S' : Sto) (p : Addr), Lays S S' → S (.t p) = none → S' (.t p) = some (.lst ((ds.map f).map .d)) → Q (.l (.t p)) S') : uLc wi (.one j) uYes te vs σ S Q := by
  refine lc_go (xs := ds.map Im.d) (g := fun _ => true) (y := fun x => match x with | .d d => Im.d (f d) | x => x) (fun R hR => hi R fun W S1 l hn hx hok => hR W S1 l (by rw [hn, List.length_map]) hx hok) (by rw [List.length_map, sizeLine_eq]; omega) (fun it _ S' Q' _ q => q) (fun it hit _ S' Q' l q => ?_) (fun S' p l h0 h1 => ?_)
  · obtain ⟨d, hd, rfl⟩ := List.mem_map.mp hit
    exact h d hd S' Q' l q
  · refine k S' p l h0 ?_
    rw [h1, List.filter_eq_self.mpr (fun _ _ => rfl), List.map_map, List.map_map]
    rfl
/-- what a written tuple of data, a list of data gives to it -/
theorem walk_tup {u : TE3} {σ : St3} {S : Sto} {ds : List PyData} (hu : ∀ R : K3, R (.d (.tuple ds)) S → u σ S R) :
    ∀ R : Wk → Sto → Prop, (∀ W S1, Lays S S1 → W.n = ds.length → (∀ i it, W.item i it → (ds.map Im.d)[i]? = some it) → (∀ S', Lays S1 S' → W.ok S') → R W S1) → wT u σ S R := fun R hR =>
  hu _ ⟨ds, rfl, hR _ S (Lays.refl S) rfl (fun i it ⟨d, h1, h2⟩ => by rw [List.getElem?_map, h1, h2]; rfl) fun _ _ => trivial⟩
theorem walk_lst {u : TE3} {σ : St3} {S : Sto} {c : L} {ds : List PyData} (hu : ∀ R : K3, R (.l c) S → u σ S R) (hc : S c = some (.lst (ds.map .d))) :
    ∀ R : Wk → Sto → Prop, (∀ W S1, Lays S S1 → W.n = ds.length → (∀ i it, W.item i it → (ds.map Im.d)[i]? = some it) → (∀ S', Lays S1 S' → W.ok S') → R W S1) → wL u σ S R := fun R hR =>
  hu _ ⟨c, _, rfl, hc, hR _ S (Lays.refl S) (by rw [List.length_map]) (fun i it h => h) fun S' l => l.at_ hc⟩
/-- a list of data is made -/
def MK (u : TE3) (σ : St3) (S : Sto) (ds : List PyData) : Prop := ∀ S1, Lays S S1 → ∀ R : K3, (∀ S' c, Lays S1 S' → S' c = some (.lst (ds.map .d)) → R (.l c) S') → u σ S1 R
section
variable {u v : TE3} {σ : St3} {S : Sto} {ds es : List PyData} {ua : TA3}
theorem mk_var {i : Nat} {c : L} (hi : σ[i]? = some (some (.l c))) (hc : S c = some (.lst (ds.map .d))) : MK (uVar i) σ S ds := fun S1 l R k => ⟨_, hi, k S1 c (Lays.refl _) (l.at_ hc)⟩
theorem mk_lst (h : ∀ S1, Lays S S1 → ∀ R : List Im → Sto → Prop, R (ds.map .d) S1 → ua σ S1 R) (hl : ds.length < 1000) : MK (uLst ua) σ S ds := fun S1 l R k =>
  h S1 l _ ⟨by rw [List.length_map, sizeLine_eq]; omega, .inl fun p hp => k _ _ ((Lays.refl S1).new (.inl hp)) put_same⟩
theorem mk_cat (hu : MK u σ S ds) (hv : MK v σ S es) (hl : ds.length + es.length < 1000) : MK (uOp oCat u v) σ S (ds ++ es) := fun S1 l R k =>
  hu S1 l _ fun S2 c l2 h2 => hv S2 (l.trans l2) _ fun S3 c' l3 h3 => ⟨c, c', _, _, rfl, rfl, l3.at_ h2, h3, by rw [List.length_map, List.length_map, sizeLine_eq]; omega, .inl fun p hp => k _ _ ((l2.trans l3).new (.inl (by
    exact hp))) (by rw [put_same, List.map_append])⟩
theorem mk_lc {wi : TI3} {te : TE3} {j : Nat} {vs : List Nat} {f : PyData → PyData}
    (hi : ∀ S1, Lays S S1 → ∀ R : Wk → Sto → Prop, (∀ W S2, Lays S1 S2 → W.n = ds.length → (∀ i it, W.item i it → (ds.map Im.d)[i]? = some it) → (∀ S', Lays S2 S' → W.ok S') → R W S2) → wi σ S1 R) (hl : ds.length < 1000)
    (h : ∀ d ∈ ds, ∀ (S' : Sto) (Q' : K3), Lays S S' → (∀ S4, Lays S' S4 → Q' (.d (f d)) S4) → te ((wipe3 σ vs).set j (some (.d d))) S' Q') : MK (uLc wi (.one j) uYes te vs) σ S (ds.map f) := fun S1 l R k =>
  lc_dat (hi S1 l) hl (fun d hd S' Q' l' => h d hd S' Q' (l.trans l')) fun S' p l' _ h' => k S' _ l' h'
end
/-! ### small data -/
inductive Sm : Nat → PyData → Prop
  | non {n : Nat} : Sm n .none
  | bl {n : Nat} (b : Bool) : Sm n (.bool b)
  | int {n : Nat} {i : Int} (h : i.natAbs < 10000000000) : Sm n (.int i)
  | str {n : Nat} {x : Str} (h : (x.cps.toList.all fun c => decide (c < 16 ^ 8)) = true ∧ x.cps.size ≤ 30) : Sm n (.str x)
  | tup {n : Nat} {ds : List PyData} (hl : ds.length ≤ 12) (h : ∀ d ∈ ds, Sm n d) : Sm (n + 1) (.tuple ds)
theorem all_short {B : Nat} : ∀ ds : List PyData, (∀ d ∈ ds, d.leavesShort B = true) → PyData.leavesShortAll B ds = true
  | [], _ => by simp only [PyData.leavesShortAll]
  | d :: ds, h => by
    simp only [PyData.leavesShortAll, h d List.mem_cons_self, all_short ds fun x hx => h x (List.mem_cons_of_mem _ hx), Bool.and_self]
theorem all_show : ∀ ds : List PyData, (∀ d ∈ ds, d.showable = true) → PyData.showableAll ds = true
  | [], _ => by simp only [PyData.showableAll]
  | d :: ds, h => by
    simp only [PyData.showableAll, h d List.mem_cons_self, all_show ds fun x hx => h x (List.mem_cons_of_mem _ hx), Bool.and_self]
theorem all_nod : ∀ ds : List PyData, (∀ d ∈ ds, d.hasDict = false) → PyData.hasDictAll ds = false
  | [], _ => by simp only [PyData.hasDictAll]
  | d :: ds, h => by
    simp only [PyData.hasDictAll, h d List.mem_cons_self, all_nod ds fun x hx => h x (List.mem_cons_of_mem _ hx), Bool.or_self]
theorem all_depth {m : Nat} : ∀ ds : List PyData, (∀ d ∈ ds, d.depth ≤ m) → PyData.depthAll ds ≤ m
  | [], _ => by simp only [PyData.depthAll]; exact Nat.zero_le _
  | d :: ds, h => by
    simp only [PyData.depthAll]
    exact Nat.max_le.mpr ⟨h d List.mem_cons_self, all_depth ds fun x hx => h x (List.mem_cons_of_mem _ hx)⟩
theorem all_weight {m : Nat} : ∀ ds : List PyData, (∀ d ∈ ds, d.weight ≤ m) → PyData.weightAll ds ≤ ds.length * (m + 1)
  | [], _ => by simp only [PyData.weightAll]; exact Nat.zero_le _
  | d :: ds, h => by
    simp only [PyData.weightAll, List.length_cons]
    have h1 := h d List.mem_cons_self
    have h2 := all_weight ds fun x hx => h x (List.mem_cons_of_mem _ hx)
    rw [Nat.succ_mul]
    omega
theorem sm_facts {n : Nat} {d : PyData} (s : Sm n d) : d.leavesShort 12 = true ∧ d.showable = true ∧ d.hasDict = false ∧ d.depth ≤ n ∧ d.weight ≤ 34 * 13 ^ n := by
  induction s with
  | non => exact ⟨by simp only [PyData.leavesShort], by simp only [PyData.showable], by simp only [PyData.hasDict], by simp only [PyData.depth]; exact Nat.zero_le _, by simp only [PyData.weight]; exact Nat.zero_le _⟩
  | bl b => exact ⟨by simp only [PyData.leavesShort], by simp only [PyData.showable], by simp only [PyData.hasDict], by simp only [PyData.depth]; exact Nat.zero_le _, by simp only [PyData.weight]; exact Nat.zero_le _⟩
  | @int n i h =>
    have hlog : i.natAbs.log2 < 34 := by
      by_cases z : i.natAbs = 0
      · rw [z]
        decide
      · exact (Nat.log2_lt z).mpr (Nat.lt_of_lt_of_le h (by decide))
    refine ⟨?_, ?_, by simp only [PyData.hasDict], by simp only [PyData.depth]; exact Nat.zero_le _, ?_⟩
    · simp only [PyData.leavesShort, PyData.shown]
      refine decide_eq_true ?_
      rw [PySem.ofString_length]
      exact Nat.le_trans (int_text_length_le10 (k := 10) (by decide) h) (by decide : 10 + 1 ≤ 12)
    · simp only [PyData.showable, decide_eq_true_eq]
      omega
    · simp only [PyData.weight]
      have p : 0 < 13 ^ n := Nat.pos_of_ne_zero (by intro z; have := Nat.pow_eq_zero.mp z; omega)
      split <;> omega
  | @str n x h =>
    refine ⟨by simp only [PyData.leavesShort]; exact h.1, by simp only [PyData.showable], by simp only [PyData.hasDict], by simp only [PyData.depth]; exact Nat.zero_le _, ?_⟩
    simp only [PyData.weight]
    have p : 0 < 13 ^ n := Nat.pos_of_ne_zero (by intro z; have := Nat.pow_eq_zero.mp z; omega)
    have := h.2
    omega
  | @tup n ds hl h ih =>
    refine ⟨?_, ?_, ?_, ?_, ?_⟩
    · simp only [PyData.leavesShort]
      exact all_short ds fun d hd => (ih d hd).1
    · simp only [PyData.showable]
      exact all_show ds fun d hd => (ih d hd).2.1
    · simp only [PyData.hasDict]
      exact all_nod ds fun d hd => (ih d hd).2.2.1
    · simp only [PyData.depth]
      have := all_depth ds fun d hd => (ih d hd).2.2.2.1
      omega
    · simp only [PyData.weight]
      have h1 := all_weight ds fun d hd => (ih d hd).2.2.2.2
      have p : 0 < 13 ^ n := Nat.pos_of_ne_zero (by intro z; have := Nat.pow_eq_zero.mp z; omega)
      have h2 : ds.length * (34 * 13 ^ n + 1) ≤ 12 * (34 * 13 ^ n + 1) := Nat.mul_le_mul_right _ hl
      have e : 13 ^ (n + 1) = 13 ^ n * 13 := Nat.pow_succ ..
      omega
theorem sm_says {d : PyData} (s : Sm 4 d) : Says d := by
  obtain ⟨h1, h2, h3, h4, h5⟩ := sm_facts s
  refine ⟨h3, h2, by omega, ?_⟩
  have q := PyData.shown_le 12 (by decide) d h1
  have e : 34 * 13 ^ 4 = 971074 := by decide
  rw [e] at h5
  rw [sizeLine_eq]
  omega
end L3
end
section
set_option Elab.async false
set_option linter.all false
set_option maxRecDepth 100000
set_option maxHeartbeats 2000000
/-! law_k02: a setup is spoilt. -/
namespace Lw
open PySem PySem.Spec PyProof.Rows L2 Mx So L3 St Mc Bx Pg
/-! ### what is no setup -/
theorem bad_i {i a s f : PyData} (h : isIss i = false) : isSet (.tuple [i, a, s, f]) = false := by
  show (isIss i && _) = false
  rw [h]
  rfl
theorem bad_a {i a s f : PyData} (h : isAcq a = false) : isSet (.tuple [i, a, s, f]) = false := by
  show (isIss i && (isAcq a && _)) = false
  rw [h]
  exact Bool.and_false _
theorem bad_s {i a s f : PyData} (h : isNum 0 300 s = false) : isSet (.tuple [i, a, s, f]) = false := by
  show (isIss i && (isAcq a && (isNum 0 300 s && _))) = false
  rw [h]
  simp
theorem bad_f {i a s f : PyData} (h : isFee s f = false) : isSet (.tuple [i, a, s, f]) = false := by
  show (isIss i && (isAcq a && (isNum 0 300 s && isFee s f))) = false
  rw [h]
  simp
theorem all_set {α : Type} {g : α → Bool} {x : α} (h : g x = false) : ∀ {xs : List α} {i : Nat}, i < xs.length → (xs.set i x).all g = false
  | [], i, hi => absurd hi (Nat.not_lt_zero i)
  | y :: ys, 0, _ => by
    show (g x && _) = false
    rw [h]
    rfl
  | y :: ys, i + 1, hi => by
    show (g y && (ys.set i x).all g) = false
    rw [all_set h (Nat.lt_of_succ_lt_succ hi)]
    exact Bool.and_false _
theorem hold_set {b : List PyData} {h : Nat} {x : PyData} (hx : isNum 0 1000000000 x = false) (hh : h < b.length) : isHold (.tuple (b.set h x)) = false := by
  show (isTup 1 3 _ && (b.set h x).all (isNum 0 1000000000)) = false
  rw [all_set hx hh]
  exact Bool.and_false _
theorem iss_set {is : List PyData} {j : Nat} {x : PyData} (hx : isHold x = false) (hj : j < is.length) : isIss (.tuple (is.set j x)) = false := by
  show (isTup 1 2 _ && (is.set j x).all isHold) = false
  rw [all_set hx hj]
  exact Bool.and_false _
theorem acq_set {as : List PyData} {i : Nat} {x : PyData} (hx : isNum 1 3 x = false) (hi : i < as.length) : isAcq (.tuple (as.set i x)) = false := by
  show (isTup 1 2 _ && (as.set i x).all (isNum 1 3)) = false
  rw [all_set hx hi]
  exact Bool.and_false _
theorem tup_long {lo hi : Int} {ds : List PyData} (h : hi < ds.length) : isTup lo hi (.tuple ds) = false := by
  show (decide (lo ≤ ds.length) && decide ((ds.length : Int) ≤ hi)) = false
  rw [decide_eq_false (p := (ds.length : Int) ≤ hi) (by omega)]
  exact Bool.and_false _
theorem rep_len {ds : List PyData} (h : ds ≠ []) (n : Nat) : n ≤ (List.replicate n ds).flatten.length := by
  induction n with
  | zero => exact Nat.zero_le _
  | succ n ih =>
    rw [List.replicate_succ, List.flatten_cons, List.length_append]
    have : 0 < ds.length := List.length_pos_iff.mpr h
    omega
theorem rep_len2 {ds : List PyData} {n : Nat} : (List.replicate n ds).flatten.length = n * ds.length := by
  induction n with
  | zero => simp
  | succ n ih =>
    rw [List.replicate_succ, List.flatten_cons, List.length_append, ih, Nat.succ_mul]
    omega
theorem rep_mem {ds : List PyData} {n : Nat} {x : PyData} (h : x ∈ (List.replicate n ds).flatten) : x ∈ ds := by
  obtain ⟨l, hl, hx⟩ := List.mem_flatten.mp h
  rw [List.eq_of_mem_replicate hl] at hx
  exact hx
theorem ints_no_hold {b : List Int} (h : 1 ≤ b.length) : isIss (intsD b) = false := by
  cases b with
  | nil => exact absurd h (by decide)
  | cons x xs =>
    show (isTup 1 2 _ && (isHold (.int x) && _)) = false
    have e : isHold (.int x) = false := rfl
    rw [e]
    exact Bool.and_false _
/-! ### small ones -/
theorem sm_int {n : Nat} {i : Int} (h0 : -10 ≤ i) (h1 : i ≤ 1000000001) : Sm n (.int i) := .int (by omega)
theorem sm_ints {n : Nat} {b : List Int} (hl : b.length ≤ 12) (h : ∀ x ∈ b, 0 ≤ x ∧ x ≤ 1000000000) : Sm (n + 1) (intsD b) := .tup (by rw [List.length_map]; exact hl) fun d hd => by
  obtain ⟨x, hx, rfl⟩ := List.mem_map.mp hd
  have := h x hx
  exact sm_int (by omega) (by omega)
theorem sm_set {n : Nat} {ds : List PyData} {i : Nat} {x : PyData} (h : ∀ d ∈ ds, Sm n d) (hx : Sm n x) : ∀ d ∈ ds.set i x, Sm n d := fun d hd => by
  rcases List.mem_or_eq_of_mem_set hd with hd | rfl
  · exact h d hd
  · exact hx
theorem sm4 {n : Nat} {a b c d : PyData} (h1 : Sm n a) (h2 : Sm n b) (h3 : Sm n c) (h4 : Sm n d) : Sm (n + 1) (.tuple [a, b, c, d]) := .tup (by show 4 ≤ 12; decide) fun x hx => by
  simp only [List.mem_cons, List.not_mem_nil, or_false] at hx
  rcases hx with rfl | rfl | rfl | rfl <;> assumption
/-! ### the parts of what is spoilt -/
def Bd (d : PyData) : Prop := isSet d = false ∧ Sm 4 d ∧ ∀ z, d ≠ .str z
theorem all_cons {p : PyData → Prop} {x : PyData} {xs : List PyData} (h : p x) (g : ∀ d ∈ xs, p d) : ∀ d ∈ x :: xs, p d := fun d hd => by
  rcases List.mem_cons.mp hd with rfl | hd
  · exact h
  · exact g d hd
theorem all_nil {p : PyData → Prop} : ∀ d ∈ ([] : List PyData), p d := fun _ h => nomatch h
theorem all_app {p : PyData → Prop} {xs ys : List PyData} (h : ∀ d ∈ xs, p d) (g : ∀ d ∈ ys, p d) : ∀ d ∈ xs ++ ys, p d := fun d hd => by
  rcases List.mem_append.mp hd with hd | hd
  · exact h d hd
  · exact g d hd
theorem all_map {p q : PyData → Prop} {f : PyData → PyData} {xs : List PyData} (h : ∀ d ∈ xs, q d) (g : ∀ d, q d → p (f d)) : ∀ d ∈ xs.map f, p d := fun d hd => by
  obtain ⟨x, hx, rfl⟩ := List.mem_map.mp hd
  exact g x (h x hx)
theorem sm_up {n : Nat} {d : PyData} (s : Sm n d) : Sm (n + 1) d := by
  induction s with
  | non => exact .non
  | bl b => exact .bl b
  | int h => exact .int h
  | str h => exact .str h
  | tup hl h ih => exact .tup hl ih
theorem sm_1 {n : Nat} {d : PyData} (s : Sm n d) : Sm (n + 1) (.tuple [d]) := .tup (by show 1 ≤ 12; decide) (all_cons s all_nil)
theorem sm_0 {n : Nat} : Sm (n + 1) (.tuple []) := .tup (Nat.zero_le _) all_nil
theorem sm_str {n : Nat} {x : Str} (h : ((x.cps.toList.all fun c => decide (c < 16 ^ 8)) && decide (x.cps.size ≤ 30)) = true) : Sm n (.str x) := by
  rw [Bool.and_eq_true] at h
  exact .str ⟨h.1, of_decide_eq_true h.2⟩
section
variable {is : List (List Int)} {as bj : List Int} {sh fe : Int} {jn hn ia : Nat}
theorem isum (h : ∀ b ∈ is, 1 ≤ b.length ∧ b.length ≤ 3 ∧ ∀ x ∈ b, 0 ≤ x ∧ x ≤ 1000000000) : ∀ d ∈ is.map intsD, Sm 2 d := fun d hd => by
  obtain ⟨b, hb, rfl⟩ := List.mem_map.mp hd
  have := h b hb
  exact sm_ints (by omega) this.2.2
theorem smI (ok : OkS is as sh fe) : Sm 3 (.tuple (is.map intsD)) := .tup (by rw [List.length_map]; have := ok.i2; omega) (isum ok.ib)
theorem smA (ok : OkS is as sh fe) : Sm 2 (intsD as) := sm_ints (by have := ok.a2; omega) fun x hx => by have := ok.ab x hx; omega
theorem smS {n : Nat} (ok : OkS is as sh fe) : Sm n (.int sh) := sm_int (by have := ok.s1; omega) (by have := ok.s2; omega)
theorem smF {n : Nat} (ok : OkS is as sh fe) : Sm n (.int fe) := sm_int (by have := ok.s1; have := ok.f1; omega) (by have := ok.f2; omega)
theorem ints_sm1 {b : List Int} (h : ∀ x ∈ b, 0 ≤ x ∧ x ≤ 1000000000) : ∀ d ∈ b.map PyData.int, Sm 1 d := fun d hd => by
  obtain ⟨x, hx, rfl⟩ := List.mem_map.mp hd
  have := h x hx
  exact sm_int (by omega) (by omega)
def amA (bj : List Int) (hn : Nat) : List PyData := ([PyData.int (-1), .int 1000000001, .bool true, .bool false, .none, .str "100", .tuple [.int 1]].map fun x => PyData.tuple ((bj.map PyData.int).set hn x)) ++ [.tuple [], .tuple (List.replicate 4 (bj.map PyData.int)).flatten, .none, .int 100, .str "ab"]
theorem bd_am (okb : 1 ≤ bj.length ∧ bj.length ≤ 3 ∧ ∀ x ∈ bj, 0 ≤ x ∧ x ≤ 1000000000) (hh : hn < bj.length) : ∀ x ∈ amA bj hn, isHold x = false ∧ Sm 2 x := by
  refine all_app (all_map (q := fun x => isNum 0 1000000000 x = false ∧ Sm 1 x) ?_ fun d hd => ⟨hold_set hd.1 (by rw [List.length_map]; exact hh), .tup (by rw [List.length_set, List.length_map]; omega) (sm_set (ints_sm1 okb.2.2) hd.2)⟩) ?_
  · exact all_cons ⟨rfl, sm_int (by decide) (by decide)⟩ (all_cons ⟨rfl, sm_int (by decide) (by decide)⟩ (all_cons ⟨rfl, .bl _⟩ (all_cons ⟨rfl, .bl _⟩ (all_cons ⟨rfl, .non⟩ (all_cons ⟨rfl, sm_str (by decide +kernel)⟩ (all_cons ⟨rfl, sm_1 (sm_int (by decide) (by decide))⟩ all_nil))))))
  · refine all_cons ⟨rfl, sm_0⟩ (all_cons ⟨?_, .tup ?_ fun d hd => ints_sm1 okb.2.2 d (rep_mem hd)⟩ (all_cons ⟨rfl, .non⟩ (all_cons ⟨rfl, sm_int (by decide) (by decide)⟩ (all_cons ⟨rfl, sm_str (by decide +kernel)⟩ all_nil))))
    · show (isTup 1 3 _ && _) = false
      rw [tup_long (by rw [rep_len2, List.length_map]; omega)]
      rfl
    · rw [rep_len2, List.length_map]
      omega
theorem bd_1 (ok : OkS is as sh fe) (hj : jn < is.length) {xs : List PyData} (h : ∀ x ∈ xs, isHold x = false ∧ Sm 2 x) : ∀ d ∈ xs.map fun x => PyData.tuple [.tuple ((is.map intsD).set jn x), .tuple (as.map .int), .int sh, .int fe], Bd d :=
  all_map h fun d hd => ⟨bad_i (iss_set hd.1 (by rw [List.length_map]; exact hj)), sm4 (.tup (by rw [List.length_set, List.length_map]; have := ok.i2; omega) (sm_set (isum ok.ib) hd.2)) (sm_up (smA ok)) (smS ok) (smF ok), (fun _ z => nomatch z)⟩
theorem bd_2 (ok : OkS is as sh fe) (okb : 1 ≤ bj.length ∧ bj.length ≤ 3 ∧ ∀ x ∈ bj, 0 ≤ x ∧ x ≤ 1000000000) : ∀ d ∈ [PyData.tuple [], .tuple (List.replicate 3 (is.map intsD)).flatten, .none, .int 5, intsD bj, .str "a"].map fun x => PyData.tuple [x, .tuple (as.map .int), .int sh, .int fe], Bd d := by
  have i1 := ok.i1
  have i2 := ok.i2
  refine all_map (q := fun x => isIss x = false ∧ Sm 3 x) ?_ fun d hd => ⟨bad_i hd.1, sm4 hd.2 (sm_up (smA ok)) (smS ok) (smF ok), (fun _ z => nomatch z)⟩
  refine all_cons ⟨rfl, sm_0⟩ (all_cons ⟨?_, .tup ?_ fun d hd => isum ok.ib d (rep_mem hd)⟩ (all_cons ⟨rfl, .non⟩ (all_cons ⟨rfl, sm_int (by decide) (by decide)⟩ (all_cons ⟨ints_no_hold okb.1, sm_up (sm_ints (by omega) okb.2.2)⟩ (all_cons ⟨rfl, sm_str (by decide +kernel)⟩ all_nil)))))
  · show (isTup 1 2 _ && _) = false
    rw [tup_long (by rw [rep_len2, List.length_map]; omega)]
    rfl
  · rw [rep_len2, List.length_map]
    omega
def hoA (as : List Int) (ia : Nat) : List PyData := ([PyData.int 0, .int 4, .int (-1), .bool true, .bool false, .none, .str "1", .tuple [.int 1]].map fun x => PyData.tuple ((as.map PyData.int).set ia x)) ++ [.tuple [], .tuple (List.replicate 3 (as.map PyData.int)).flatten, .none, .int 2, .str "a"]
theorem bd_ho (ok : OkS is as sh fe) (hi : ia < as.length) : ∀ x ∈ hoA as ia, isAcq x = false ∧ Sm 3 x := by
  have a1 := ok.a1
  have a2 := ok.a2
  have sa : ∀ d ∈ as.map PyData.int, Sm 2 d := fun d hd => sm_up (ints_sm1 (fun x hx => by have := ok.ab x hx; omega) d hd)
  refine all_app (all_map (q := fun x => isNum 1 3 x = false ∧ Sm 2 x) ?_ fun d hd => ⟨acq_set hd.1 (by rw [List.length_map]; exact hi), .tup (by rw [List.length_set, List.length_map]; omega) (sm_set sa hd.2)⟩) ?_
  · exact all_cons ⟨rfl, sm_int (by decide) (by decide)⟩ (all_cons ⟨rfl, sm_int (by decide) (by decide)⟩ (all_cons ⟨rfl, sm_int (by decide) (by decide)⟩ (all_cons ⟨rfl, .bl _⟩ (all_cons ⟨rfl, .bl _⟩ (all_cons ⟨rfl, .non⟩ (all_cons ⟨rfl, sm_str (by decide +kernel)⟩ (all_cons ⟨rfl, sm_1 (sm_int (by decide) (by decide))⟩ all_nil)))))))
  · refine all_cons ⟨rfl, sm_0⟩ (all_cons ⟨?_, .tup ?_ fun d hd => sa d (rep_mem hd)⟩ (all_cons ⟨rfl, .non⟩ (all_cons ⟨rfl, sm_int (by decide) (by decide)⟩ (all_cons ⟨rfl, sm_str (by decide +kernel)⟩ all_nil))))
    · show (isTup 1 2 _ && _) = false
      rw [tup_long (by rw [rep_len2, List.length_map]; omega)]
      rfl
    · rw [rep_len2, List.length_map]
      omega
theorem bd_3 (ok : OkS is as sh fe) {xs : List PyData} (h : ∀ x ∈ xs, isAcq x = false ∧ Sm 3 x) : ∀ d ∈ xs.map fun x => PyData.tuple [.tuple (is.map intsD), x, .int sh, .int fe], Bd d :=
  all_map h fun d hd => ⟨bad_a hd.1, sm4 (smI ok) hd.2 (smS ok) (smF ok), (fun _ z => nomatch z)⟩
theorem bd_4 (ok : OkS is as sh fe) : ∀ d ∈ [PyData.int (-1), .int 301, .bool true, .bool false, .none, .str "1", .int 400, .tuple [.int 1], .tuple []].map fun x => PyData.tuple [.tuple (is.map intsD), .tuple (as.map .int), x, .int 500], Bd d := by
  refine all_map (q := fun x => isNum 0 300 x = false ∧ Sm 3 x) ?_ fun d hd => ⟨bad_s hd.1, sm4 (smI ok) (sm_up (smA ok)) hd.2 (sm_int (by decide) (by decide)), (fun _ z => nomatch z)⟩
  exact all_cons ⟨rfl, sm_int (by decide) (by decide)⟩ (all_cons ⟨rfl, sm_int (by decide) (by decide)⟩ (all_cons ⟨rfl, .bl _⟩ (all_cons ⟨rfl, .bl _⟩ (all_cons ⟨rfl, .non⟩ (all_cons ⟨rfl, sm_str (by decide +kernel)⟩ (all_cons ⟨rfl, sm_int (by decide) (by decide)⟩ (all_cons ⟨rfl, sm_1 (sm_int (by decide) (by decide))⟩ (all_cons ⟨rfl, sm_0⟩ all_nil))))))))
theorem fee_hi {i : Int} (h : 500 < i) : isFee (.int sh) (.int i) = false := by
  show (decide (sh ≤ i) && decide (i ≤ 500)) = false
  rw [decide_eq_false (p := i ≤ 500) (by omega)]
  exact Bool.and_false _
theorem fee_lo {i : Int} (h : i < sh) : isFee (.int sh) (.int i) = false := by
  show (decide (sh ≤ i) && decide (i ≤ 500)) = false
  rw [decide_eq_false (p := sh ≤ i) (by omega)]
  rfl
theorem bd_5 (ok : OkS is as sh fe) : ∀ d ∈ [PyData.int 501, .int (-1), .none, .str "500", .int (sh - 1), .bool true, .tuple [.int 500], .tuple []].map fun x => PyData.tuple [.tuple (is.map intsD), .tuple (as.map .int), .int sh, x], Bd d := by
  have s1 := ok.s1
  have s2 := ok.s2
  refine all_map (q := fun x => isFee (.int sh) x = false ∧ Sm 3 x) ?_ fun d hd => ⟨bad_f hd.1, sm4 (smI ok) (sm_up (smA ok)) (smS ok) hd.2, (fun _ z => nomatch z)⟩
  exact all_cons ⟨fee_hi (by decide), sm_int (by decide) (by decide)⟩ (all_cons ⟨fee_lo (by omega), sm_int (by decide) (by decide)⟩ (all_cons ⟨rfl, .non⟩ (all_cons ⟨rfl, sm_str (by decide +kernel)⟩ (all_cons ⟨fee_lo (by omega), sm_int (by omega) (by omega)⟩ (all_cons ⟨rfl, .bl _⟩ (all_cons ⟨rfl, sm_1 (sm_int (by decide) (by decide))⟩ (all_cons ⟨rfl, sm_0⟩ all_nil)))))))
theorem ints_no_iss {b : List Int} (h : 1 ≤ b.length) : isIss (intsD b) = false := ints_no_hold h
theorem bd_6 (ok : OkS is as sh fe) : ∀ d ∈ [PyData.tuple [.tuple (is.map intsD), .tuple (as.map .int), .int sh], .tuple [.tuple (is.map intsD), .tuple (as.map .int), .int sh, .int fe, .int 0], .tuple [.tuple (as.map .int), .tuple (is.map intsD), .int sh, .int fe], .tuple [], .tuple [.tuple (is.map intsD)]], Bd d := by
  refine all_cons ⟨rfl, ?_, (fun _ z => nomatch z)⟩ (all_cons ⟨rfl, ?_, (fun _ z => nomatch z)⟩ (all_cons ⟨bad_i (ints_no_hold ok.a1), sm4 (sm_up (smA ok)) (smI ok) (smS ok) (smF ok), (fun _ z => nomatch z)⟩ (all_cons ⟨rfl, sm_0, (fun _ z => nomatch z)⟩ (all_cons ⟨rfl, sm_1 (smI ok), (fun _ z => nomatch z)⟩ all_nil))))
  · exact .tup (by show 3 ≤ 12; decide) (all_cons (smI ok) (all_cons (sm_up (smA ok)) (all_cons (smS ok) all_nil)))
  · exact .tup (by show 5 ≤ 12; decide) (all_cons (smI ok) (all_cons (sm_up (smA ok)) (all_cons (smS ok) (all_cons (smF ok) (all_cons (sm_int (by decide) (by decide)) all_nil)))))
end
section
variable {P : Program} {w : World} {K : PySem.W.Frag} {mg : Str → Option Value} {base : Heap}
abbrev sPut : Stmt := top 60
theorem scPut : FnScope ["row", "at", "x"] ["row", "at", "x"] (defScope sPut) := ⟨rfl, rfl, rfl, by decide +kernel, rfl, by decide +kernel, by decide +kernel⟩
def spPut : Sp3 := fun its S Q _ => ∃ (ds : List PyData) (n : Nat) (x : PyData), its = [.d (.tuple ds), .d (.int n), .d x] ∧ n < ds.length ∧ ds.length ≤ 100 ∧ Q (.d (.tuple (ds.set n x))) S
theorem ok_put {f : Addr} {fd : FuncData} (F : Fun K "_law_put" "_law_put" sPut f fd) : FnOk P w K mg base (LT.CX P w) 1 f fd ["row", "at", "x"] (spOf P w spPut) := by
  refine ok3 F scPut (fun its St Q E h => ?_) (fun cdv A outer s H E E3 hr => ?_)
  · obtain ⟨ds, n, x, rfl, _⟩ := h
    rfl
  refine ⟨_, ss_one (s3_ret (e3_op op_catA up_catT (e3_op op_catA up_catT (e3_slTo (v3 0) (v3 1)) (e3_tup (a3_cons (v3 2) a3_nil))) (e3_slFr (v3 0) (e3_op op_add (up_I0 fun _ _ _ => .int _) (v3 1) e3_int)))), ?_⟩
  rintro its St Q ⟨ds, n, x, rfl, hn, hl, q⟩
  refine ⟨_, rfl, _, rfl, ds, n, rfl, rfl, hn, _, rfl, _, rfl, by show 1 ≤ sizeLine; decide, ds.take n, [x], rfl, rfl, ?_, ?_⟩
  · rw [List.length_take, sizeLine_eq]
    show min n ds.length + 1 ≤ _
    omega
  · refine ⟨_, rfl, _, rfl, n, 1, rfl, rfl, ds, n + 1, rfl, by simp, by omega, by omega, _, _, rfl, rfl, ?_, ?_⟩
    · rw [List.length_append, List.length_take, List.length_drop, sizeLine_eq]
      show min n ds.length + 1 + _ ≤ _
      omega
    · have e : ds.take n ++ [x] ++ ds.drop (n + 1) = ds.set n x := by
        rw [List.set_eq_take_append_cons_drop, if_pos hn, List.append_assoc]
        rfl
      rw [e]
      exact q
end
end Lw
end
section
set_option Elab.async false
set_option linter.all false
set_option maxRecDepth 100000
set_option maxHeartbeats 0
/-! law_k02: a setup is spoilt. -/
namespace Lw
open PySem PySem.Spec PyProof.Rows L2 Mx So L3 St Mc Bx Pg
section
variable {P : Program} {w : World} {K : PySem.W.Frag} {mg : Str → Option Value} {base : Heap}
abbrev sSpo : Stmt := top 61
abbrev nSpo : List Str := ["box", "setup", "issuers", "acquirers", "share", "fee", "j", "i", "h", "amounts", "x", "bad", "houses"]
theorem scSpo : FnScope nSpo ["box", "setup"] (defScope sSpo) := ⟨rfl, rfl, rfl, by decide +kernel, rfl, by decide +kernel, by decide +kernel⟩
def spSpo : Sp3 := fun its S Q _ => ∃ is as sh fe, its = [.l .box, .d (suD is as sh fe)] ∧ BoxOn S ∧ OkS is as sh fe ∧ ∀ S' d, LaysB .box S S' → BoxOn S' → Bd d → Q (.d d) S'
theorem ok_spo {f fT fP fU : Addr} {fd fdT fdP fdU : FuncData} (F : Fun K "_law_spoilt" "_law_spoilt" sSpo f fd) (T : St.Txt mg)
    (GT : FnOk P w K mg base (LT.CX P w) 1 fT fdT ["box", "m"] (spOf P w s3Take)) (bT : Binds K fdT ["box", "m"] []) (mT : mg "_law_take" = some (.ref fT)) (kT : PySem.W.keepIn K (.ref fT) = true)
    (GP : FnOk P w K mg base (LT.CX P w) 2 fP fdP ["box", "menu"] (spOf P w s3Pick)) (bP : Binds K fdP ["box", "menu"] []) (mP : mg "_law_pick" = some (.ref fP)) (kP : PySem.W.keepIn K (.ref fP) = true)
    (GU : FnOk P w K mg base (LT.CX P w) 1 fU fdU ["row", "at", "x"] (spOf P w spPut)) (bU : Binds K fdU ["row", "at", "x"] []) (mU : mg "_law_put" = some (.ref fU)) (kU : PySem.W.keepIn K (.ref fU) = true) :
    FnOk P w K mg base (LT.CX P w) 3 f fd ["box", "setup"] (spOf P w spSpo) := by
  refine ok3 F scSpo (fun its St Q E h => ?_) (fun cdv A outer s H E E3 hr => ?_)
  · obtain ⟨is, as, sh, fe, rfl, _⟩ := h
    rfl
  have hr1 : Room 1 _ := hr.mono (by decide)
  refine ⟨_, ss_cons (s3_asg (v3 1) (g3_tup (js := [2, 3, 4, 5]) rfl (gs3_cons scSpo.nd rfl (Or.inr rfl) (gs3_cons scSpo.nd rfl (Or.inr rfl) (gs3_cons scSpo.nd rfl (Or.inr rfl) (gs3_cons scSpo.nd rfl (Or.inr rfl) gs3_nil))))))
    (ss_cons (s3_set (i := 6) scSpo.nd rfl (Or.inr rfl) (e3_call GT hr1 rfl mT kT bT (a3_cons (v3 0) (a3_cons (e3_len rfl T.len PySem.boot_len (a3_cons (v3 2) a3_nil)) a3_nil))))
    (ss_cons (s3_set (i := 7) scSpo.nd rfl (Or.inr rfl) (e3_call GT hr1 rfl mT kT bT (a3_cons (v3 0) (a3_cons (e3_len rfl T.len PySem.boot_len (a3_cons (v3 3) a3_nil)) a3_nil))))
    (ss_cons (s3_set (i := 8) scSpo.nd rfl (Or.inr rfl) (e3_call GT hr1 rfl mT kT bT (a3_cons (v3 0) (a3_cons (e3_len rfl T.len PySem.boot_len (a3_cons (e3_ixT (v3 2) (v3 6) (by intro _ _; rfl)) a3_nil)) a3_nil))))
    (ss_cons (s3_set (i := 9) scSpo.nd rfl (Or.inl rfl) (e3_op op_cat up_cat
      (e3_lc (own := [("x", 10)]) (g := .one 10) rfl scSpo.nd (i3_tup (e3_tup (a3_cons (e3_neg e3_int) (a3_cons (e3_op op_add (up_I0 fun _ _ _ => .int _) (e3_op op_pow (up_I fun _ _ _ => .int _) e3_int e3_int) e3_int) (a3_cons e3_bl (a3_cons e3_bl (a3_cons e3_non (a3_cons e3_str (a3_cons (e3_tup (a3_cons e3_int a3_nil)) a3_nil)))))))))
        (blkOk_by (N := nSpo) (sc := defScope sSpo) (by decide +kernel)) (fun j hj => hj) (fun _ _ _ _ _ => b3_one (i := 10) scSpo.nd rfl (Or.inl rfl)) (fun _ _ _ _ _ => ts3_nil)
        (fun _ _ _ _ _ => by exact e3_call GU hr1 (by rfl) mU kU bU (a3_cons (e3_ixT (v3 2) (v3 6) (by intro _ _; rfl)) (a3_cons (v3 8) (a3_cons (v3 10) a3_nil)))))
      (e3_lst (a3_cons (e3_tup a3_nil) (a3_cons (e3_op op_repT up_repT (e3_ixT (v3 2) (v3 6) (by intro _ _; rfl)) e3_int) (a3_cons e3_non (a3_cons e3_int (a3_cons e3_str a3_nil))))))))
    (ss_cons (s3_setLc (i := 11) (own := [("x", 10)]) (g := .one 10) rfl scSpo.nd rfl rfl (sw_true rfl rfl rfl (by decide +kernel)) (i3_list (v3 9)) (blkOk_by (N := nSpo) (sc := defScope sSpo) (by decide +kernel)) (fun j hj => hj) (fun _ _ _ _ _ => b3_one (i := 10) scSpo.nd rfl (Or.inl rfl)) (fun _ _ _ _ _ => ts3_nil)
        (fun _ _ _ _ _ => by exact e3_tup (a3_cons (e3_call GU hr1 (by rfl) mU kU bU (a3_cons (v3 2) (a3_cons (v3 6) (a3_cons (v3 10) a3_nil)))) (a3_cons (v3 3) (a3_cons (v3 4) (a3_cons (v3 5) a3_nil))))))
    (ss_cons (s3_set (i := 11) scSpo.nd rfl (Or.inl rfl) (e3_op op_cat up_cat (v3 11)
      (e3_lc (own := [("x", 10)]) (g := .one 10) rfl scSpo.nd (i3_tup (e3_tup (a3_cons (e3_tup a3_nil) (a3_cons (e3_op op_repT up_repT (v3 2) e3_int) (a3_cons e3_non (a3_cons e3_int (a3_cons (e3_ixT (v3 2) (v3 6) (by intro _ _; rfl)) (a3_cons e3_str a3_nil))))))))
        (blkOk_by (N := nSpo) (sc := defScope sSpo) (by decide +kernel)) (fun j hj => hj) (fun _ _ _ _ _ => b3_one (i := 10) scSpo.nd rfl (Or.inl rfl)) (fun _ _ _ _ _ => ts3_nil)
        (fun _ _ _ _ _ => by exact e3_tup (a3_cons (v3 10) (a3_cons (v3 3) (a3_cons (v3 4) (a3_cons (v3 5) a3_nil))))))))
    (ss_cons (s3_set (i := 12) scSpo.nd rfl (Or.inl rfl) (e3_op op_cat up_cat
      (e3_lc (own := [("x", 10)]) (g := .one 10) rfl scSpo.nd (i3_tup (e3_tup (a3_cons e3_int (a3_cons e3_int (a3_cons (e3_neg e3_int) (a3_cons e3_bl (a3_cons e3_bl (a3_cons e3_non (a3_cons e3_str (a3_cons (e3_tup (a3_cons e3_int a3_nil)) a3_nil))))))))))
        (blkOk_by (N := nSpo) (sc := defScope sSpo) (by decide +kernel)) (fun j hj => hj) (fun _ _ _ _ _ => b3_one (i := 10) scSpo.nd rfl (Or.inl rfl)) (fun _ _ _ _ _ => ts3_nil)
        (fun _ _ _ _ _ => by exact e3_call GU hr1 (by rfl) mU kU bU (a3_cons (v3 3) (a3_cons (v3 7) (a3_cons (v3 10) a3_nil)))))
      (e3_lst (a3_cons (e3_tup a3_nil) (a3_cons (e3_op op_repT up_repT (v3 3) e3_int) (a3_cons e3_non (a3_cons e3_int (a3_cons e3_str a3_nil))))))))
    (ss_cons (s3_set (i := 11) scSpo.nd rfl (Or.inl rfl) (e3_op op_cat up_cat (v3 11)
      (e3_lc (own := [("x", 10)]) (g := .one 10) rfl scSpo.nd (i3_list (v3 12)) (blkOk_by (N := nSpo) (sc := defScope sSpo) (by decide +kernel)) (fun j hj => hj) (fun _ _ _ _ _ => b3_one (i := 10) scSpo.nd rfl (Or.inl rfl)) (fun _ _ _ _ _ => ts3_nil)
        (fun _ _ _ _ _ => by exact e3_tup (a3_cons (v3 2) (a3_cons (v3 10) (a3_cons (v3 4) (a3_cons (v3 5) a3_nil))))))))
    (ss_cons (s3_set (i := 11) scSpo.nd rfl (Or.inl rfl) (e3_op op_cat up_cat (e3_op op_cat up_cat (v3 11)
      (e3_lc (own := [("x", 10)]) (g := .one 10) rfl scSpo.nd (i3_tup (e3_tup (a3_cons (e3_neg e3_int) (a3_cons e3_int (a3_cons e3_bl (a3_cons e3_bl (a3_cons e3_non (a3_cons e3_str (a3_cons e3_int (a3_cons (e3_tup (a3_cons e3_int a3_nil)) (a3_cons (e3_tup a3_nil) a3_nil)))))))))))
        (blkOk_by (N := nSpo) (sc := defScope sSpo) (by decide +kernel)) (fun j hj => hj) (fun _ _ _ _ _ => b3_one (i := 10) scSpo.nd rfl (Or.inl rfl)) (fun _ _ _ _ _ => ts3_nil)
        (fun _ _ _ _ _ => by exact e3_tup (a3_cons (v3 2) (a3_cons (v3 3) (a3_cons (v3 10) (a3_cons e3_int a3_nil)))))))
      (e3_lc (own := [("x", 10)]) (g := .one 10) rfl scSpo.nd (i3_tup (e3_tup (a3_cons e3_int (a3_cons (e3_neg e3_int) (a3_cons e3_non (a3_cons e3_str (a3_cons (e3_op op_sub (up_I0 fun _ _ _ => .int _) (v3 4) e3_int) (a3_cons e3_bl (a3_cons (e3_tup (a3_cons e3_int a3_nil)) (a3_cons (e3_tup a3_nil) a3_nil))))))))))
        (blkOk_by (N := nSpo) (sc := defScope sSpo) (by decide +kernel)) (fun j hj => hj) (fun _ _ _ _ _ => b3_one (i := 10) scSpo.nd rfl (Or.inl rfl)) (fun _ _ _ _ _ => ts3_nil)
        (fun _ _ _ _ _ => by exact e3_tup (a3_cons (v3 2) (a3_cons (v3 3) (a3_cons (v3 4) (a3_cons (v3 10) a3_nil))))))))
    (ss_cons (s3_set (i := 11) scSpo.nd rfl (Or.inl rfl) (e3_op op_cat up_cat (v3 11) (e3_lst (a3_cons (e3_tup (a3_cons (v3 2) (a3_cons (v3 3) (a3_cons (v3 4) a3_nil)))) (a3_cons (e3_tup (a3_cons (v3 2) (a3_cons (v3 3) (a3_cons (v3 4) (a3_cons (v3 5) (a3_cons e3_int a3_nil))))))
      (a3_cons (e3_tup (a3_cons (v3 3) (a3_cons (v3 2) (a3_cons (v3 4) (a3_cons (v3 5) a3_nil))))) (a3_cons (e3_tup a3_nil) (a3_cons (e3_tup (a3_cons (v3 2) a3_nil)) a3_nil))))))))
    (ss_one (s3_ret (e3_call GP hr rfl mP kP bP (a3_cons (v3 0) (a3_cons (v3 11) a3_nil))))))))))))))), ?_⟩
  rintro its St Q ⟨is, as, sh, fe, rfl, hb, ok, q⟩
  have il : (is.map intsD).length = is.length := List.length_map ..
  have al : (as.map PyData.int).length = as.length := List.length_map ..
  have i1 := ok.i1
  have i2 := ok.i2
  have a1 := ok.a1
  have a2 := ok.a2
  refine ⟨_, rfl, _, rfl, rfl, ?_⟩
  try dsimp only [uSeq, uAsg, kName]
  refine ye_take (m := (is.length : Int)) (Pr := fun x => 0 ≤ x ∧ x < is.length) rfl (by omega) (by omega) (fun S R r => ⟨_, rfl, .d (.tuple (is.map intsD)), is.length, rfl, .inr ⟨_, rfl, il.symm⟩, r⟩) (fun r r0 r1 => ⟨r0, r1⟩) St _ hb fun j S1 hj b1 l1 => ?_
  obtain ⟨jn, rfl⟩ := Int.eq_ofNat_of_zero_le hj.1
  have hjn : jn < is.length := by have := hj.2; omega
  try dsimp only [uSeq, uAsg, kName]
  refine ye_take (m := (as.length : Int)) (Pr := fun x => 0 ≤ x ∧ x < as.length) rfl (by omega) (by omega) (fun S R r => ⟨_, rfl, .d (.tuple (as.map .int)), as.length, rfl, .inr ⟨_, rfl, al.symm⟩, r⟩) (fun r r0 r1 => ⟨r0, r1⟩) S1 _ b1 fun i S2 hi b2 l2 => ?_
  obtain ⟨ia, rfl⟩ := Int.eq_ofNat_of_zero_le hi.1
  have hia : ia < as.length := by have := hi.2; omega
  obtain ⟨bj, hbj⟩ : ∃ bj, is[jn]? = some bj := ⟨_, List.getElem?_eq_getElem hjn⟩
  have okb := ok.ib bj (List.mem_of_getElem? hbj)
  have ix : atI (is.map intsD) (jn : Int) = some (intsD bj) := by
    refine atI_nat ?_
    rw [List.getElem?_map, hbj]
    rfl
  have bl : (bj.map PyData.int).length = bj.length := List.length_map ..
  try dsimp only [uSeq, uAsg, kName]
  refine ye_take (m := (bj.length : Int)) (Pr := fun x => 0 ≤ x ∧ x < bj.length) rfl (by omega) (by omega) (fun S R r => ⟨_, rfl, _, rfl, _, (jn : Int), intsD bj, rfl, rfl, ix, .d (intsD bj), bj.length, rfl, .inr ⟨_, rfl, bl.symm⟩, r⟩) (fun r r0 r1 => ⟨r0, r1⟩) S2 _ b2 fun h S3 hh b3 l3 => ?_
  obtain ⟨hn, rfl⟩ := Int.eq_ofNat_of_zero_le hh.1
  have hhn : hn < bj.length := by have := hh.2; omega
  have l03 := (l1.trans l2).trans l3
  try dsimp only [uSeq, uAsg, kName, Blk.any]
  have eσ : (((setAll [2, 3, 4, 5] (List.map Im.d [PyData.tuple (List.map intsD is), PyData.tuple (List.map PyData.int as), PyData.int sh, PyData.int fe]) (start3 nSpo [Im.l Loc.box, Im.d (suD is as sh fe)])).set 6 (some (Im.d (PyData.int jn)))).set 7 (some (Im.d (PyData.int ia)))).set 8 (some (Im.d (PyData.int hn))) =
    [some (.l .box), some (.d (suD is as sh fe)), some (.d (.tuple (is.map intsD))), some (.d (.tuple (as.map .int))), some (.d (.int sh)), some (.d (.int fe)), some (.d (.int jn)), some (.d (.int ia)), some (.d (.int hn)), none, none, none, none] := rfl
  rw [eσ]
  clear eσ
  dsimp only [List.set_cons_zero, List.set_cons_succ]
  refine mk_cat (S := S3) (ds := [PyData.int (-1), .int 1000000001, .bool true, .bool false, .none, .str "100", .tuple [.int 1]].map fun x => .tuple ((bj.map PyData.int).set hn x)) (es := [.tuple [], .tuple (List.replicate 4 (bj.map PyData.int)).flatten, .none, .int 100, .str "ab"])
    (mk_lc (fun S' l => walk_tup fun R r => ⟨_, rfl, _, _, rfl, rfl, ⟨by decide, by decide, by decide⟩, 1000000000, 1, rfl, rfl, _, rfl, by show 1 ≤ sizeLine; decide, _, rfl, by show 7 ≤ sizeLine; decide, r⟩) (by decide) fun d hd S' Q' l kq =>
      ⟨_, rfl, _, rfl, _, (jn : Int), intsD bj, rfl, rfl, ix, _, rfl, _, rfl, bj.map .int, hn, d, rfl, by rw [bl]; exact hhn, by rw [bl]; omega, kq S' (Lays.refl S')⟩)
    (mk_lst (fun S' l R r => ⟨_, rfl, by show 0 ≤ sizeLine; exact Nat.zero_le _, _, rfl, _, rfl, _, (jn : Int), intsD bj, rfl, rfl, ix, bj.map .int, 4, rfl, rfl, (fun z => by rw [List.map_eq_nil_iff] at z; rw [z] at okb; exact absurd okb.1 (by decide)), by decide, by decide, by rw [bl]; omega, r⟩) (by show 5 < 1000; decide)) (by show 7 + 5 < 1000; decide) S3 (Lays.refl _) _ fun S4 ca l4 h4 => ?_
  have bA := bd_am okb hhn
  have lenA : (amA bj hn).length = 12 := rfl
  change S4 ca = some (.lst ((amA bj hn).map .d)) at h4
  generalize amA bj hn = amL at h4 bA lenA
  try dsimp only [uSeq, uAsg, kName, Blk.any, List.set_cons_zero, List.set_cons_succ]
  refine mk_lc (S := S4) (ds := amL) (f := fun x => .tuple [.tuple ((is.map intsD).set jn x), .tuple (as.map .int), .int sh, .int fe]) (fun S' l => walk_lst (fun R r => ⟨_, rfl, r⟩) (l.at_ h4)) (by omega)
    (fun d hd S' Q' l kq => ⟨_, rfl, _, rfl, _, rfl, is.map intsD, jn, d, rfl, by rw [il]; exact hjn, by rw [il]; omega, _, rfl, _, rfl, _, rfl, _, rfl, by show 4 ≤ sizeLine; decide, kq S' (Lays.refl S')⟩) S4 (Lays.refl _) _ fun S5 cb l5 h5 => ?_
  try dsimp only [uSeq, uAsg, kName, Blk.any, List.set_cons_zero, List.set_cons_succ]
  refine mk_cat (S := S5) (es := [PyData.tuple [], .tuple (List.replicate 3 (is.map intsD)).flatten, .none, .int 5, intsD bj, .str "a"].map fun x => .tuple [x, .tuple (as.map .int), .int sh, .int fe]) (mk_var rfl h5)
    (mk_lc (fun S' l => walk_tup fun R r => ⟨_, rfl, Nat.zero_le _, _, rfl, is.map intsD, 3, rfl, rfl, (fun z => by rw [List.map_eq_nil_iff] at z; rw [z] at i1; exact absurd i1 (by decide)), by decide, by decide, by rw [il]; omega, _, rfl, _, rfl, _, (jn : Int), intsD bj, rfl, rfl, ix, _, rfl, by show 6 ≤ sizeLine; decide, r⟩) (by show 6 < 1000; decide)
      fun d hd S' Q' l kq => ⟨_, rfl, _, rfl, _, rfl, _, rfl, _, rfl, by show 4 ≤ sizeLine; decide, kq S' (Lays.refl S')⟩) (by rw [List.length_map, lenA]; show 12 + 6 < 1000; decide) S5 (Lays.refl _) _ fun S6 cc l6 h6 => ?_
  have B1 := bd_1 ok hjn bA
  have B2 := all_app B1 (bd_2 ok okb)
  generalize hX : (amL.map fun x => PyData.tuple [.tuple ((is.map intsD).set jn x), .tuple (as.map .int), .int sh, .int fe]) ++ ([PyData.tuple [], .tuple (List.replicate 3 (is.map intsD)).flatten, .none, .int 5, intsD bj, .str "a"].map fun x => PyData.tuple [x, .tuple (as.map .int), .int sh, .int fe]) = X2 at h6 B2
  have lenX : X2.length = 18 := by rw [← hX, List.length_append, List.length_map, List.length_map, lenA]; rfl
  try dsimp only [uSeq, uAsg, kName, Blk.any, List.set_cons_zero, List.set_cons_succ]
  refine mk_cat (S := S6) (ds := [PyData.int 0, .int 4, .int (-1), .bool true, .bool false, .none, .str "1", .tuple [.int 1]].map fun x => .tuple ((as.map PyData.int).set ia x)) (es := [.tuple [], .tuple (List.replicate 3 (as.map PyData.int)).flatten, .none, .int 2, .str "a"])
    (mk_lc (fun S' l => walk_tup fun R r => ⟨1, rfl, _, rfl, by show 1 ≤ sizeLine; decide, _, rfl, by show 8 ≤ sizeLine; decide, r⟩) (by show 8 < 1000; decide) fun d hd S' Q' l kq =>
      ⟨_, rfl, _, rfl, _, rfl, as.map .int, ia, d, rfl, by rw [al]; exact hia, by rw [al]; omega, kq S' (Lays.refl S')⟩)
    (mk_lst (fun S' l R r => ⟨_, rfl, by show 0 ≤ sizeLine; exact Nat.zero_le _, _, rfl, as.map .int, 3, rfl, rfl, (fun z => by rw [List.map_eq_nil_iff] at z; rw [z] at a1; exact absurd a1 (by decide)), by decide, by decide, by rw [al]; omega, r⟩) (by show 5 < 1000; decide)) (by show 8 + 5 < 1000; decide) S6 (Lays.refl _) _ fun S7 cd l7 h7 => ?_
  have bH := bd_ho ok hia
  have lenH : (hoA as ia).length = 13 := rfl
  change S7 cd = some (.lst ((hoA as ia).map .d)) at h7
  generalize hoA as ia = hoL at h7 bH lenH
  try dsimp only [uSeq, uAsg, kName, Blk.any, List.set_cons_zero, List.set_cons_succ]
  refine mk_cat (S := S7) (es := hoL.map fun x => PyData.tuple [.tuple (is.map intsD), x, .int sh, .int fe]) (mk_var rfl (l7.at_ h6))
    (mk_lc (fun S' l => walk_lst (fun R r => ⟨_, rfl, r⟩) (l.at_ h7)) (by omega)
      fun d hd S' Q' l kq => ⟨_, rfl, _, rfl, _, rfl, _, rfl, _, rfl, by show 4 ≤ sizeLine; decide, kq S' (Lays.refl S')⟩) (by rw [List.length_map, lenX, lenH]; decide) S7 (Lays.refl _) _ fun S8 ce l8 h8 => ?_
  have B3 := all_app B2 (bd_3 ok bH)
  generalize hY : X2 ++ (hoL.map fun x => PyData.tuple [.tuple (is.map intsD), x, .int sh, .int fe]) = X3 at h8 B3
  have lenY : X3.length = 31 := by rw [← hY, List.length_append, List.length_map, lenX, lenH]
  try dsimp only [uSeq, uAsg, kName, Blk.any, List.set_cons_zero, List.set_cons_succ]
  refine mk_cat (S := S8) (ds := X3 ++ [PyData.int (-1), .int 301, .bool true, .bool false, .none, .str "1", .int 400, .tuple [.int 1], .tuple []].map fun x => PyData.tuple [.tuple (is.map intsD), .tuple (as.map .int), x, .int 500])
    (es := [PyData.int 501, .int (-1), .none, .str "500", .int (sh - 1), .bool true, .tuple [.int 500], .tuple []].map fun x => PyData.tuple [.tuple (is.map intsD), .tuple (as.map .int), .int sh, x])
    (mk_cat (mk_var rfl h8) (mk_lc (fun S' l => walk_tup fun R r => ⟨1, rfl, _, rfl, by show 1 ≤ sizeLine; decide, _, rfl, Nat.zero_le _, _, rfl, by show 9 ≤ sizeLine; decide, r⟩) (by show 9 < 1000; decide)
      fun d hd S' Q' l kq => ⟨_, rfl, _, rfl, _, rfl, _, rfl, by show 4 ≤ sizeLine; decide, kq S' (Lays.refl S')⟩) (by rw [List.length_map, lenY]; show 31 + 9 < 1000; decide))
    (mk_lc (fun S' l => walk_tup fun R r => ⟨1, rfl, _, rfl, sh, 1, rfl, rfl, _, rfl, by show 1 ≤ sizeLine; decide, _, rfl, Nat.zero_le _, _, rfl, by show 8 ≤ sizeLine; decide, r⟩) (by show 8 < 1000; decide)
      fun d hd S' Q' l kq => ⟨_, rfl, _, rfl, _, rfl, _, rfl, _, rfl, by show 4 ≤ sizeLine; decide, kq S' (Lays.refl S')⟩) (by rw [List.length_append, List.length_map, List.length_map, lenY]; show 31 + 9 + 8 < 1000; decide) S8 (Lays.refl _) _ fun S9 cf l9 h9 => ?_
  have B5 := all_app (all_app B3 (bd_4 ok)) (bd_5 ok)
  generalize hZ : (X3 ++ [PyData.int (-1), .int 301, .bool true, .bool false, .none, .str "1", .int 400, .tuple [.int 1], .tuple []].map fun x => PyData.tuple [.tuple (is.map intsD), .tuple (as.map .int), x, .int 500]) ++ ([PyData.int 501, .int (-1), .none, .str "500", .int (sh - 1), .bool true, .tuple [.int 500], .tuple []].map fun x => PyData.tuple [.tuple (is.map intsD), .tuple (as.map .int), .int sh, x]) = X5 at h9 B5
  have lenZ : X5.length = 48 := by rw [← hZ, List.length_append, List.length_append, List.length_map, List.length_map, lenY]; rfl
  try dsimp only [uSeq, uAsg, kName, Blk.any, List.set_cons_zero, List.set_cons_succ]
  refine mk_cat (S := S9) (es := [PyData.tuple [.tuple (is.map intsD), .tuple (as.map .int), .int sh], .tuple [.tuple (is.map intsD), .tuple (as.map .int), .int sh, .int fe, .int 0], .tuple [.tuple (as.map .int), .tuple (is.map intsD), .int sh, .int fe], .tuple [], .tuple [.tuple (is.map intsD)]]) (mk_var rfl h9)
    (mk_lst (fun S' l R r => ⟨_, rfl, _, rfl, _, rfl, _, rfl, by show 3 ≤ sizeLine; decide, _, rfl, _, rfl, _, rfl, _, rfl, _, rfl, by show 5 ≤ sizeLine; decide, _, rfl, _, rfl, _, rfl, _, rfl, _, rfl, by show 4 ≤ sizeLine; decide, _, rfl, Nat.zero_le _, _, rfl, _, rfl, by show 1 ≤ sizeLine; decide, r⟩) (by show 5 < 1000; decide)) (by rw [lenZ]; show 48 + 5 < 1000; decide) S9 (Lays.refl _) _ fun S10 cg l10 h10 => ?_
  have B6 := all_app B5 (bd_6 ok)
  generalize hW : X5 ++ [PyData.tuple [.tuple (is.map intsD), .tuple (as.map .int), .int sh], .tuple [.tuple (is.map intsD), .tuple (as.map .int), .int sh, .int fe, .int 0], .tuple [.tuple (as.map .int), .tuple (is.map intsD), .int sh, .int fe], .tuple [], .tuple [.tuple (is.map intsD)]] = X6 at h10 B6
  have lenW : X6.length = 53 := by rw [← hW, List.length_append, lenZ]; rfl
  have lE : LaysB .box St S10 := (((((((l03.trans (LaysB.of l4)).trans (LaysB.of l5)).trans (LaysB.of l6)).trans (LaysB.of l7)).trans (LaysB.of l8)).trans (LaysB.of l9)).trans (LaysB.of l10))
  have bE : BoxOn S10 := boxOn_lays b3 (((((l4.trans l5).trans l6).trans l7).trans l8).trans (l9.trans l10))
  try dsimp only [uSeq, uRet]
  refine ⟨_, rfl, _, rfl, cg, _, rfl, bE, h10, ?_, by rw [List.length_map, lenW]; decide, by rw [List.length_map, lenW]; decide, fun it S' hit b' bt => ?_⟩
  · rintro rfl
    obtain ⟨x, c, a, cs, ha, hb, hc⟩ := bE
    rw [h10] at hb
    have hx : X6.map Im.d = [.d (.int x), .d (.int c), .d (.int a), .l .cells] := by
      injection hb with hb
      injection hb
    have := congrArg List.length hx
    rw [List.length_map, lenW] at this
    exact absurd this (by show ¬(53 = 4); decide)
  · obtain ⟨d, hd, rfl⟩ := List.mem_map.mp hit
    exact q S' d (lE.trans (LaysB.but bt)) b' (B6 d hd)
end
end Lw
end
section
set_option Elab.async false
set_option linter.all false
set_option maxRecDepth 100000
set_option maxHeartbeats 1000000
/-! law_k02: the word for an error. -/
namespace Lw
open PySem PySem.Spec PyProof.Rows L2 Mx So L3 L2H
abbrev sClass : Stmt := top 58
section
variable {P : Program} {w : World} {K : PySem.W.Frag} {mg : Str → Option Value} {base : Heap}
theorem ite_no {p : Bool} {A B : Prop} (h : p = false) (b : B) : if p = true then A else B := by
  subst h
  exact b
theorem scClass : FnScope ["e", "kinds"] ["e"] (defScope sClass) := ⟨rfl, rfl, rfl, by decide +kernel, rfl, by decide +kernel, by decide +kernel⟩
theorem ok_class {f c1 c2 c3 c4 : Addr} {fd : FuncData} (F : Fun K "_law_class" "_law_class" sClass f fd) (C : Errs K c1 c2 c3 c4) (SC : LT.StrC K c1 ∧ LT.StrC K c2 ∧ LT.StrC K c3 ∧ LT.StrC K c4) (mi : mg "isinstance" = none) (mv : mg "ValueError" = none) (ms : mg "str" = none)
    (m1 : mg "BadSetup" = some (.ref c1)) (m2 : mg "NoSuch" = some (.ref c2)) (m3 : mg "BadStage" = some (.ref c3)) (m4 : mg "Stopped" = some (.ref c4)) :
    FnX P w K mg base 1 f fd "e" (Word c1 c2 c3 c4 "setup" "such" "stage" "stopped") := by
  refine fnx_of F scClass (fun cdv A outer s H p cls t r Q hx harg hg hr q => ?_)
  obtain ⟨D, b1, b2, b3, b4, j, hD, ED, SD, h1, h2, h3, h4, hv, hc, hj, hz, hno, hr2⟩ : ∃ (D : Addr) (b1 b2 b3 b4 : Bool) (j : Nat), cls = .ref D ∧ ExcC K D ∧ LT.StrC K D ∧ PySem.W.kitOne K (.ref D) (.ref c1) = some b1 ∧ PySem.W.kitOne K (.ref D) (.ref c2) = some b2 ∧ PySem.W.kitOne K (.ref D) (.ref c3) = some b3 ∧
      PySem.W.kitOne K (.ref D) (.ref c4) = some b4 ∧ PySem.W.kitOne K (.ref D) (.type "ValueError") = some true ∧ ([V.bl b1, .bl b2, .bl b3, .bl b4].countP fun z => eqV z (.bl true)) = 1 ∧ [V.bl b1, .bl b2, .bl b3, .bl b4][j]? = some (.bl true) ∧ eqV (.bl true) (.bl true) = true ∧
      (∀ (m : Nat) (z : V), m < j → [V.bl b1, .bl b2, .bl b3, .bl b4][m]? = some z → eqV z (.bl true) = false) ∧ [V.str "setup", .str "such", .str "stage", .str "stopped"][j]? = some (.str r) := by
    cases hg with
    | a => exact ⟨c1, _, _, _, _, 0, rfl, C.ex.1, SC.1, C.k1.1, C.k1.2.1, C.k1.2.2.1, C.k1.2.2.2.1, C.k1.2.2.2.2, by decide, rfl, rfl, fun m z hm => absurd hm (Nat.not_lt_zero m), rfl⟩
    | b => exact ⟨c2, _, _, _, _, 1, rfl, C.ex.2.1, SC.2.1, C.k2.1, C.k2.2.1, C.k2.2.2.1, C.k2.2.2.2.1, C.k2.2.2.2.2, by decide, rfl, rfl, fun m z hm e => by
        obtain rfl : m = 0 := by omega
        cases e
        rfl, rfl⟩
    | c => exact ⟨c3, _, _, _, _, 2, rfl, C.ex.2.2.1, SC.2.2.1, C.k3.1, C.k3.2.1, C.k3.2.2.1, C.k3.2.2.2.1, C.k3.2.2.2.2, by decide, rfl, rfl, fun m z hm e => by
        match m, hm with
        | 0, _ =>
          cases e
          rfl
        | 1, _ =>
          cases e
          rfl, rfl⟩
    | d => exact ⟨c4, _, _, _, _, 3, rfl, C.ex.2.2.2, SC.2.2.2, C.k4.1, C.k4.2.1, C.k4.2.2.1, C.k4.2.2.2.1, C.k4.2.2.2.2, by decide, rfl, rfl, fun m z hm e => by
        match m, hm with
        | 0, _ =>
          cases e
          rfl
        | 1, _ =>
          cases e
          rfl
        | 2, _ =>
          cases e
          rfl, rfl⟩
  subst hD
  have hp : p ∈ (cxH (LT.CX P w) P w K mg base ["e", "kinds"] "_law_class" (defScope sClass) f cdv A outer s H E0 p).pn := List.mem_singleton.mpr rfl
  have isi := LT.call_isX ED hp hx
  have st := LT.call_strX (by have := hr.un; show (A.deeper (envOfC "_law_class" (defScope sClass) s.heap.objs.size f cdv)).units + 2 < cLine; omega) SD hp hx
  refine ⟨_, pss_cons (ps_set (i := 1) scClass.nd rfl (Or.inl rfl) (pe_lst
      (pa_cons (pe_callB isi rfl mi (by decide +kernel) (pa_cons (pv 0) (pa_cons (pe_glob rfl m1 (v := .ref c1) rfl) pa_nil)))
      (pa_cons (pe_callB isi rfl mi (by decide +kernel) (pa_cons (pv 0) (pa_cons (pe_glob rfl m2 (v := .ref c2) rfl) pa_nil)))
      (pa_cons (pe_callB isi rfl mi (by decide +kernel) (pa_cons (pv 0) (pa_cons (pe_glob rfl m3 (v := .ref c3) rfl) pa_nil)))
      (pa_cons (pe_callB isi rfl mi (by decide +kernel) (pa_cons (pv 0) (pa_cons (pe_glob rfl m4 (v := .ref c4) rfl) pa_nil))) pa_nil))))))
    (pss_cons (ps_if (PW.pt (pw_or (pt_cmpR op_ne (pe_bm PySem.F.plainAttrs_list PySem.F.slot_list_count PySem.F.type_list_count mt_lcountF (pv 1) (pa_cons pe_bl pa_nil)) pe_int (nomark _))
        (pw_or (pt_not (pt_val (pe_callB isi rfl mi (by decide +kernel) (pa_cons (pv 0) (pa_cons (pe_bltn rfl mv (by decide +kernel) (v := .ty "ValueError") rfl) pa_nil)))))
        (pw_or1 (pt_cmpR op_ne (pe_callTy st rfl ms (by decide +kernel) (pa_cons (pv 0) pa_nil)) pe_str (nomark _)))))) (pss_one (ps_ret pe_str)) pss_nil)
    (pss_one (ps_ret (pe_ix ix_list (pe_lst (pa_cons pe_str (pa_cons pe_str (pa_cons pe_str (pa_cons pe_str pa_nil)))))
      (pe_bm PySem.F.plainAttrs_list PySem.F.slot_list_index PySem.F.type_list_index mt_index (pv 1) (pa_cons pe_bl pa_nil)) (fun _ _ => rfl))))), ?_⟩
  refine ⟨_, rfl, .ref c1, .ref c1, b1, rfl, fun u e => e, h1, ?_⟩
  refine ⟨_, rfl, .ref c2, .ref c2, b2, rfl, fun u e => e, h2, ?_⟩
  refine ⟨_, rfl, .ref c3, .ref c3, b3, rfl, fun u e => e, h3, ?_⟩
  refine ⟨_, rfl, .ref c4, .ref c4, b4, rfl, fun u e => e, h4, ?_⟩
  refine ⟨by show 4 ≤ sizeLine; decide, fun l hl => ?_⟩
  have hL : SqL K (upd H l (.lst [V.bl b1, .bl b2, .bl b3, .bl b4])) l [V.bl b1, .bl b2, .bl b3, .bl b4] := SqL.of upd_same
  have flat : [V.bl b1, .bl b2, .bl b3, .bl b4].all flatV = true := rfl
  refine ⟨_, rfl, .inl ⟨rfl, _, hL⟩, l, _, .bl true, rfl, rfl, hL, rfl, flat, ?_⟩
  rw [hc]
  refine ⟨rfl, _, rfl, ?_⟩
  refine ite_no (by decide) ?_
  refine ⟨_, rfl, .ty "ValueError", .type "ValueError", true, rfl, fun u e => e, hv, true, rfl, ?_⟩
  refine ite_no rfl ?_
  refine ⟨_, rfl, rfl, (upd_ne (ne_of_none harg hl)).trans harg, rfl, _, rfl, ?_⟩
  refine ite_no (by decide) ?_
  refine ⟨by show 4 ≤ sizeLine; decide, fun l2 hl2 => ?_⟩
  have hL2 : SqL K (upd (upd H l (.lst [V.bl b1, .bl b2, .bl b3, .bl b4])) l2 (.lst [V.str "setup", .str "such", .str "stage", .str "stopped"])) l [V.bl b1, .bl b2, .bl b3, .bl b4] := SqL.of (by
    rw [upd_ne (ne_of_none upd_same hl2)]
    exact upd_same)
  refine ⟨_, rfl, .inl ⟨rfl, _, hL2⟩, l, _, .bl true, j, .bl true, rfl, rfl, hL2, rfl, flat, hj, hz, hno, ?_⟩
  refine ⟨l2, _, (j : Int), _, rfl, rfl, SqL.of upd_same, atI_nat hr2, q _ ?_⟩
  intro b o e
  rw [upd_ne, upd_ne (ne_of_none e hl)]
  · exact e
  · exact ne_of_none (Eq.trans (upd_ne (ne_of_none e hl)) e) hl2
end
end Lw
end
section
set_option Elab.async false
set_option linter.all false
set_option maxRecDepth 100000
set_option maxHeartbeats 1000000
/-! Within a try: instances are made; the try around any block. -/
namespace L3
open PySem PySem.Spec PyProof.Rows L2 Mx So Gd
section
variable {X : Cx} {Z : ZZ} {k : Nat} {fi C : Addr} {fdi : FuncData} {ps : List Str} {x : Str} {p pos : Pos} {e : Expr} {es : List Expr} {tg : TA} {ug : TA3}
theorem obj_run {sp : Sp} {G : XK} {us : List Value} {vs : List V} {pins : List (Addr × Obj)} {σ : L2.St} {H : Hp} {s : Shared} {Q : VK} (mk : Mk X.K C fi) (fo : FnOk X.prog X.w X.K X.mg X.base (LT.CX X.prog X.w) k fi fdi ps sp) (room : Room (k + 1) X.A) (bd : Binds X.K fdi ps [])
    (px : PassesAt (LT.CX X.prog X.w) X σ G) (inv : Inv X pins σ H s) (rv : Vals vs us) (h : ∀ a d, H a = none → H d = none → d ≠ a → sp (.ref a :: (vs ++ [])) (upd (upd H d (.own a)) a (.ins C d [])) (fun v H2 => v = .non ∧ Q (.ref a) H2) G) :
    wpAny (model X.prog X.w) X.A (call (.ref C) us) (EP X pins σ Q) X.xe s := by
  have z := h (s.heap.objs.size + 1) s.heap.objs.size (inv.hok.fresh (by omega)) (inv.hok.fresh (by omega)) (fun q => absurd q.symm (Nat.succ_ne_self _))
  have inv2 := Inv.made (C := C) inv
  have all : Vals (.ref (s.heap.objs.size + 1) :: (vs ++ [])) (.ref (s.heap.objs.size + 1) :: (us ++ [])) := .cons rfl (rv.append .nil)
  have len := all.length
  rw [fo.len _ _ _ _ z] at len
  have bound := bd _ (.ref (s.heap.objs.size + 1) :: us) inv2.kIn len.symm
  have ran := fo.run _ X.stack _ _ ⟨.ref (s.heap.objs.size + 1) :: us, []⟩ _ _ _ G (room.make C us []) (inv2.env0.make C us []) bound all z
  refine wpAny_call (make_map (f := fi) inv.kIn mk.makes mk.init (beq_iff_eq.mp mk.fn) (codeAny_mono ran ?_))
  rintro (u | fl) s' hq
  · exact px pins _ _ u s' inv2 hq
  · match fl, hq with
    | .ret u, hq =>
      obtain ⟨v, H', inv3, r2, rfl, q⟩ := inv2.after hq
      exact ⟨r2, .ref _, H', inv3, rfl, q⟩
    | .next, hq => exact hq.elim
    | .brk, hq => exact hq.elim
    | .cont, hq => exact hq.elim
def tMkX (C : Addr) (sp : Sp) (E : L2.St → XK) (t : TA) : TE := fun σ H Q => tMake C sp [] (E σ) t σ H Q
theorem pe_mkX {sp : Sp} {E : L2.St → XK} (mk : Mk X.K C fi) (fo : FnOk X.prog X.w X.K X.mg X.base (LT.CX X.prog X.w) k fi fdi ps sp) (room : Room (k + 1) X.A) (bd : Binds X.K fdi ps []) (px : ∀ σ, PassesAt (LT.CX X.prog X.w) X σ (E σ)) (gl : Gl X x) (gm : X.mg x = some (.ref C)) (pa : PA X (e :: es) tg)
    (hdb : (x == ("__debug__" : Str)) = false) (he : starEach (e :: es) X.env = (false, eval e X.env) :: starEach es X.env) (hpl : (backTo pos (starEach es X.env)).any (·.1) = false) : PE X (.Call (.Name x p) (e :: es) [] pos) (tMkX C sp E tg) := by
  constructor
  intro pins s σ H Q inv h
  apply wpAny_Call_Name_kw
  apply ld_glob inv gl gm _ hdb
  apply PySem.W.callWith_K (h₀ := X.base) inv.ok.mod.kin mk.kp _ he hpl
  refine thn (pa.run pos pins s σ H _ inv h) ?_
  rintro us s1 ⟨vs, H1, inv1, r, q⟩
  exact ⟨inv1.kIn, obj_run mk fo room bd (px σ) inv1 r q⟩
theorem up_mkX {P : Program} {w : World} {sp : Sp3} (ha : UpA P w Z tg ug) : Up P w Z (tMkX C (spOf P w sp) (WE Z.z) tg) (uMake C sp Z.z3 ug) := by
  intro σ σi H ad S Q Q3 R sl z k
  refine ha σ σi H ad S _ _ R sl z ?_
  intro vs H1 ad1 S1 its R1 n1 p1 z1 a d ha hd ne
  obtain ⟨R2, n2⟩ := R1.tmp (o := .own a) hd
  have ha2 : upd H1 d (.own a) a = none := (upd_ne fun e => ne e.symm).trans ha
  obtain ⟨ad3, c, R3, n3, e3, _, q3⟩ := new_at (o := .ins C d []) (e := .ins C []) R2 z1 ha2 fun ad' c n => ⟨d, [], upd_same, .nil⟩
  have n13 := (n1.trans n2).trans n3
  have ic : ItAt (upd (upd H1 d (.own a)) a (.ins C d [])) ad3 (S1.put c (.ins C [])) (.ref a) (.l c) := ⟨by rw [e3], by rw [put_same]; exact fun z => nomatch z⟩
  rw [List.append_nil]
  refine ⟨ad3, _, _, _, _, R3, .cons ic (pr_go (pr_go p1 n2) n3), q3, ?_, fun cl H' ad' S' R' n' z => sl.ax cl σ σi H' ad' S' R' (n13.trans n') ((sl.pr.go n13).go n') z⟩
  rintro v H4 ad4 S4 it R4 n4 i4 ⟨rfl, q4⟩
  exact ⟨Dt.nonI i4, k (.ref a) H4 ad4 S4 (.l c) R4 (n13.trans n4) (n4.it ic) q4⟩
theorem e3_objX {sp : Sp3} (tk : LT.Takes X Z.z) (mk : Mk X.K C fi) (fo : FnOk X.prog X.w X.K X.mg X.base (LT.CX X.prog X.w) k fi fdi ps (spOf X.prog X.w sp)) (room : Room (k + 1) X.A) (gl : Gl X x) (gm : X.mg x = some (.ref C)) (bd : Binds X.K fdi ps []) (pa : PA3 X Z (e :: es) tg ug)
    (hdb : (x == ("__debug__" : Str)) = false := by decide) (he : starEach (e :: es) X.env = (false, eval e X.env) :: starEach es X.env := by rfl) (hpl : (backTo pos (starEach es X.env)).any (·.1) = false := by rfl) :
    PE3 X Z (.Call (.Name x p) (e :: es) [] pos) (tMkX C (spOf X.prog X.w sp) (WE Z.z) tg) (uMake C sp Z.z3 ug) :=
  ⟨pe_mkX mk fo room bd (LT.passAt tk) gl gm pa.pe hdb he hpl, up_mkX pa.up⟩
end
/-! ### is None, for what is None -/
def oIsN : R3 := fun x y S Q => x = .d .none ∧ y = .d .none ∧ Q (.d (.bool true)) S
theorem up_isN {P : Program} {w : World} : Up2 P w (fun x y H Q => y = .non ∧ Q (.bl (decide (x = .non))) H) oIsN := by
  rintro H ad S x y ix iy Q Q3 R hx hy ⟨rfl, rfl, q⟩ k
  obtain rfl := Dt.nonI hx
  obtain rfl := Dt.nonI hy
  exact ⟨rfl, k (.bl true) H ad S (.d (.bool true)) R (Nx.refl _ _ _) (Dt.bl _) q⟩
/-! ### a text in a text: either way -/
def oInAny : R3 := fun x y S Q => ∃ i j, x = .d (.str i) ∧ y = .d (.str j) ∧ ∀ c : Bool, Q (.d (.bool c)) S
theorem up_inAny {P : Program} {w : World} : Up2 P w (fun x y H Q => ∃ i j, x = .str i ∧ y = .str j ∧ Q (.bl (!(Builtin.Str.occurrences j i 0 j.length 1).isEmpty)) H) oInAny := by
  rintro H ad S x y ix iy Q Q3 R hx hy ⟨i, j, rfl, rfl, q⟩ k
  obtain rfl := Dt.strI hx
  obtain rfl := Dt.strI hy
  exact ⟨i, j, rfl, rfl, k (.bl _) H ad S (.d (.bool _)) R (Nx.refl _ _ _) (Dt.bl _) (q _)⟩
/-- [.. if t(x)], where t is never true -/
theorem lc_none {wi : TI3} {j : Nat} {tt : TT3} {te : TE3} {vs : List Nat} {σ : St3} {S : Sto} {Q : K3} {xs : List Im}
    (hi : ∀ R : Wk → Sto → Prop, (∀ W S1, Lays S S1 → W.n = xs.length → (∀ i it, i < W.n → W.item i it → xs[i]? = some it) → (∀ S', Lays S1 S' → W.ok S') → R W S1) → wi σ S R)
    (ht : ∀ it ∈ xs, ∀ (S' : Sto) (Q' : Bool → Sto → Prop), Lays S S' → (∀ S4, Lays S' S4 → Q' false S4) → tt ((wipe3 σ vs).set j (some it)) S' Q')
    (k : ∀ (S' : Sto) (p : Addr), Lays S S' → S (.t p) = none → S' (.t p) = some (.lst []) → Q (.l (.t p)) S') : uLc wi (.one j) tt te vs σ S Q := by
  refine hi _ fun W S1 l1 hn hx hok => .inl fun p hp => ?_
  refine ⟨fun _ S' => S' (.t p) = some (.lst []) ∧ Lays S1 S', ⟨put_same, (Lays.refl S1).new (.inl hp)⟩, fun _ _ _ h => hok _ h.2, ?_, fun S' h => k S' p (l1.trans h.2) (fresh_l hp l1) h.1⟩
  rintro n it S' hlt hit ⟨h1, h2⟩
  refine ⟨_, rfl, ht it (List.mem_of_getElem? (hx n it hlt hit)) S' _ (l1.trans h2) fun S4 l4 => ?_⟩
  show (if false = true then _ else _)
  rw [if_neg (by decide)]
  exact ⟨l4.at_ h1, h2.trans l4⟩
/-! ### try: any block over the store -/
section
variable {X : Cx} {Z : ZZ} {x n : Str} {c : Value} {i : Nat} {es : Expr} {body : List Stmt} {np p2 pos' pos : Pos} {ub : WX3 → TS3} {te : Addr → Addr → Value → TE} {ue : Addr → Value → TE3}
def tOver (P : Program) (w : World) (ub : WX3 → TS3) (W : WX) : TS := fun D σ H => ∃ (W3 : WX3) (D3 : Ends3) (ad : L → Addr) (S : Sto) (σi : St3), Rep P w H ad S ∧ Slots P w ⟨W, W3⟩ H ad S σ σi ∧ ub W3 D3 σi S ∧ AftS P w ⟨W, W3⟩ H ad S D D3
theorem s3_tryB (hs : X.stack = X.env :: X.outer) (hf : X.env.frame = some X.env.locals) (hN : X.N.Nodup) (hi : X.N[i]? = some n) (hln : X.env.kindOf n = some .local) (hc : Names X x c) (tk : LT.Takes X Z.z)
    (hb : ∀ (W : WX) (W3 : WX3) (pn : List (Addr × Obj)) (xe : Value → Shared → Prop), LT.Takes (X.tr pn xe) W → PSs3 (X.tr pn xe) ⟨W, W3⟩ body (ub W3))
    (hsu : ∀ (a t : Addr) (oe : Obj) (cls : Value) (pn : List (Addr × Obj)), LT.IsX cls t (a, oe) → PE (X.suite a ((a, oe) :: pn)) es (te a t cls)) (hue : ∀ a t cls, UpX X.prog X.w Z t (te a t cls) (ue a cls)) :
    PS3 X Z (.Try body [.ExceptHandler (some (.Name x np)) (some n) [.Return (some es) p2] pos'] [] [] pos) (uTry X.K c i Z.z3 ub ue) := by
  refine s3_try hs hf hN hi hln hc tk (tb := tOver X.prog X.w ub) (fun W pn xe t _ => ⟨?_⟩) (fun W W3 => ?_) hsu hue
  · rintro pins s σ H D inv ⟨W3, D3, ad, S, σi, R, sl, z, k⟩
    obtain ⟨tm, hp, hu⟩ := (hb W W3 pn xe t).ex
    exact hp.run pins s σ H D inv (hu σ σi H ad S D D3 R sl z k)
  · intro σ σi H ad S D D3 R sl z k
    exact ⟨W3, D3, ad, S, σi, R, sl, z, k⟩
end
end L3
end
section
set_option Elab.async false
set_option linter.all false
set_option maxRecDepth 100000
set_option maxHeartbeats 4000000
/-! law_k02: what is refused. -/
namespace Lw
open PySem PySem.Spec PyProof.Rows L2 Mx So L3 St Mc Bx Pg L2H
def refA (way : Int) (sd : PyData) : PyData := if isSet sd = true then (if way = 3 then .tuple [.str "refused", .str "such"] else .str "let") else .tuple [.str "refused", .str "setup"]
theorem eq_int {i j : Int} {S : Sto} {Q : K3} (h : Q (.d (.bool (decide (i = j)))) S) : oEq false (.d (.int i)) (.d (.int j)) S Q := by
  refine ⟨_, _, rfl, rfl, rfl, fun c hc => ?_⟩
  have e : c = decide (i = j) := by
    cases c with
    | true =>
      have := hc.mp rfl
      injection this with this
      exact (decide_eq_true this).symm
    | false =>
      refine (decide_eq_false fun z => ?_).symm
      have := hc.mpr (by rw [z])
      cases this
  rw [e]
  exact h
theorem ts_int {i : Nat} {n j : Int} {σ : St3} {S : Sto} {Q : Bool → Sto → Prop} (hi : σ[i]? = some (some (.d (.int n)))) (h : Q (decide (n = j)) S) : uTest (uOp (oEq false) (uVar i) (uC (.int j))) σ S Q := by
  refine ⟨_, hi, ?_⟩
  show oEq false (.d (.int n)) (.d (.int j)) S (fun x S1 => ∃ k, x = .d (.bool k) ∧ Q k S1)
  exact eq_int ⟨_, rfl, h⟩
section
variable {P : Program} {w : World} {K : PySem.W.Frag} {mg : Str → Option Value} {base : Heap}
abbrev sRef : Stmt := top 59
theorem scRef : FnScope ["way", "setup", "journal", "e"] ["way", "setup", "journal"] (defScope sRef) := ⟨rfl, rfl, rfl, by decide +kernel, rfl, by decide +kernel, by decide +kernel⟩
def spRef (b : Addr) : Sp3 := fun its S Q _ => ∃ (way : Int) (sd : PyData) (j : L), its = [.d (.int way), .d sd, .l j] ∧ 0 ≤ way ∧ way ≤ 3 ∧ S .swl = some (.sw b) ∧ S j = some (.lst []) ∧ ∀ S', Lays S S' → Q (.d (refA way sd)) S'
theorem ok_ref {f fC fK fR fI b c0 c1 c2 c3 c4 CN : Addr} {fd fdC fdK fdR fdI : FuncData} (F : Fun K "_law_refused" "_law_refused" sRef f fd)
    (GC : FnX P w K mg base 1 fC fdC "e" (Word c1 c2 c3 c4 "setup" "such" "stage" "stopped")) (bC : Binds K fdC ["e"] []) (mC : mg "_law_class" = some (.ref fC)) (kC : PySem.W.keepIn K (.ref fC) = true)
    (GK : FnOk P w K mg base (LT.CX P w) 5 fK fdK ["setup"] (spOf P w (spCheck c1))) (bK : Binds K fdK ["setup"] []) (mK : mg "check_setup" = some (.ref fK)) (kK : PySem.W.keepIn K (.ref fK) = true)
    (GR : FnOk P w K mg base (LT.CX P w) 7 fR fdR ["setup", "node", "journal"] (spOf P w (spReb b c1 c2))) (bR : Binds K fdR ["setup", "node", "journal"] []) (mR : mg "rebuilt" = some (.ref fR)) (kR : PySem.W.keepIn K (.ref fR) = true)
    (GI : FnOk P w K mg base (LT.CX P w) 7 fI fdI ["self", "setup"] (spOf P w (spNetI K b c1))) (bI : Binds K fdI ["self", "setup"] []) (mI : mg "Network" = some (.ref CN)) (MI : Mk K CN fI) (oN : Oc K CN netN)
    (m0 : mg "AcquitError" = some (.ref c0)) (x1 : PySem.W.exmOne K (.ref c1) (.ref c0) = some true) (x2 : PySem.W.exmOne K (.ref c2) (.ref c0) = some true) :
    FnOk P w K mg base (LT.CX P w) 9 f fd ["way", "setup", "journal"] (spOf P w (spRef b)) := by
  refine ok3 F scRef (fun its St Q E h => ?_) (fun cdv A outer s H E E3 hr => ?_)
  · obtain ⟨way, sd, j, rfl, _⟩ := h
    rfl
  have hr1 : Room 1 _ := hr.mono (by decide)
  have hr5 : Room 5 _ := hr.mono (by decide)
  have hr7 : Room 7 _ := hr.mono (by decide)
  refine ⟨_, ss_cons (s3_tryB (i := 3) rfl rfl scRef.nd rfl rfl ⟨rfl, by decide, .inl m0⟩ (LT.takes_of rfl rfl rfl rfl)
    (ub := fun W3 => uSeq (uIfS (uTest (uOp (oEq false) (uVar 0) (uC (.int 0)))) (uRet (uIf (uTest (uOp oIsN (uCallX (spCheck c1) W3 (uCons (uVar 1) uNil)) (uC .none))) (uC (.str "let")) (uC (.str "told")))) uNext)
      (uIfS (uTest (uOp (oEq false) (uVar 0) (uC (.int 1)))) (uDrop (uMake CN (spNetI K b c1) W3 (uCons (uVar 1) uNil)))
        (uDrop (uCallX (spReb b c1 c2) W3 (uCons (uVar 1) (uCons (uIf (uTest (uOp (oEq false) (uVar 0) (uC (.int 2)))) (uTup (uCons (uC (.str "switch")) uNil)) (uC (.str "switch"))) (uCons (uVar 2) uNil)))))))
    (te := fun a t cls => tRef "refused" 3 a t (Word c1 c2 c3 c4 "setup" "such" "stage" "stopped") cls) (ue := fun a cls => uRef "refused" 3 (Word c1 c2 c3 c4 "setup" "such" "stage" "stopped") cls a)
    (fun W W3 pn xe tk => ss_cons (s3_if (t3_cmp op_eq up_eq (v3 0) e3_int (by rfl)) (ss_one (s3_ret (e3_ifExp (t3_cmp op_isN up_isN (e3_callX tk GK hr5 rfl mK kK bK (a3_cons (v3 1) a3_nil)) e3_non (by rfl)) e3_str e3_str))) ss_nil)
      (ss_one (s3_if (t3_cmp op_eq up_eq (v3 0) e3_int (by rfl)) (ss_one (s3_expr (e3_objX tk MI GI hr rfl mI bI (a3_cons (v3 1) a3_nil))))
        (ss_one (s3_expr (e3_callX tk GR hr7 rfl mR kR bR (a3_cons (v3 1) (a3_cons (e3_ifExp (t3_cmp op_eq up_eq (v3 0) e3_int (by rfl)) (e3_tup (a3_cons e3_str a3_nil)) e3_str) (a3_cons (v3 2) a3_nil)))))))))
    (fun a t oe cls pn hx => pe_tup (pa_cons pe_str (pa_cons (pe_exc (p := (a, oe)) GC ⟨hr1.dp, hr1.un⟩ List.mem_cons_self hx rfl mC kC bC rfl (Or.inl rfl)) pa_nil)))
    (fun a t cls => up_ref)) (ss_one (s3_ret e3_str)), ?_⟩
  rintro its St Q ⟨way, sd, j, rfl, w0, w3, hs, hj, q⟩
  have bad : isSet sd = false → ∀ S', Lays St S' → Q (.d (.tuple [.str "refused", .str "setup"])) S' := fun h S' l => by
    have e := q S' l
    unfold refA at e
    rw [h] at e
    exact e
  have good : isSet sd = true → way ≠ 3 → ∀ S', Lays St S' → Q (.d (.str "let")) S' := fun h hw S' l => by
    have e := q S' l
    unfold refA at e
    rw [h, if_pos rfl, if_neg hw] at e
    exact e
  have such : isSet sd = true → way = 3 → ∀ S', Lays St S' → Q (.d (.tuple [.str "refused", .str "such"])) S' := fun h hw S' l => by
    have e := q S' l
    unfold refA at e
    rw [h, if_pos rfl, if_pos hw] at e
    exact e
  have air1 : ∀ S', Lays St S' → isSet sd = false → ∃ k, PySem.W.exmOne K (.ref c1) (.ref c0) = some k ∧ (k = true → ∀ a, uRef "refused" 3 (Word c1 c2 c3 c4 "setup" "such" "stage" "stopped") (.ref c1) a ((start3 ["way", "setup", "journal", "e"] [.d (.int way), .d sd, .l j]).set 3 (some (.a a))) S' Q) ∧ (k = false → (zOf E E3).z3 (.ref c1) (start3 ["way", "setup", "journal", "e"] [.d (.int way), .d sd, .l j]) S') :=
    fun S' l h => ⟨true, x1, fun _ a => ⟨rfl, "setup", .a, bad h S' l⟩, fun z => nomatch z⟩
  have air2 : ∀ S', Lays St S' → isSet sd = true → way = 3 → ∃ k, PySem.W.exmOne K (.ref c2) (.ref c0) = some k ∧ (k = true → ∀ a, uRef "refused" 3 (Word c1 c2 c3 c4 "setup" "such" "stage" "stopped") (.ref c2) a ((start3 ["way", "setup", "journal", "e"] [.d (.int way), .d sd, .l j]).set 3 (some (.a a))) S' Q) ∧ (k = false → (zOf E E3).z3 (.ref c2) (start3 ["way", "setup", "journal", "e"] [.d (.int way), .d sd, .l j]) S') :=
    fun S' l h hw => ⟨true, x2, fun _ a => ⟨rfl, "such", .b, such h hw S' l⟩, fun z => nomatch z⟩
  try dsimp only [uSeq, uTry, uIfS]
  refine ts_int rfl (ite3 (fun h => ?_) (fun h => ?_))
  · have hw : way = 0 := of_decide_eq_true h
    refine ⟨_, rfl, sd, rfl, fun S1 l1 => ⟨fun hset => ⟨rfl, rfl, _, rfl, ?_⟩, fun hset => air1 S1 l1 hset⟩⟩
    exact good hset (by rw [hw]; decide) S1 l1
  · have hw : way ≠ 0 := of_decide_eq_false h
    refine ts_int rfl (ite3 (fun h => ?_) (fun h => ?_))
    · have hw1 : way = 1 := of_decide_eq_true h
      refine ⟨_, rfl, .inl fun p hp => ?_⟩
      have l0 := (Lays.refl St).new (e := .ins CN []) (.inl hp)
      refine ⟨.t p, CN, sd, rfl, l0.at_ hs, put_same, oN, fun hset S' l => air1 S' (l0.trans l) hset, fun hset is as sh fe g S' l _ => ⟨rfl, ?_⟩⟩
      exact good hset (by rw [hw1]; decide) S' (LaysB.lays hp l)
    · have hw1 : way ≠ 1 := of_decide_eq_false h
      have key : ∀ nd : PyData, SeqAt.shaped nd = true → ((nd = swD ∧ way = 2) ∨ ((∀ na ni, isNode na ni nd = false) ∧ nd ≠ swD ∧ way = 3)) → spReb b c1 c2 [.d sd, .d nd, .l j] St (fun _ S1 => Q (.d (.str "let")) S1) (fun cls S1 => ∃ k, PySem.W.exmOne K cls (.ref c0) = some k ∧ (k = true → ∀ a, uRef "refused" 3 (Word c1 c2 c3 c4 "setup" "such" "stage" "stopped") cls a ((start3 ["way", "setup", "journal", "e"] [.d (.int way), .d sd, .l j]).set 3 (some (.a a))) S1 Q) ∧ (k = false → (zOf E E3).z3 cls (start3 ["way", "setup", "journal", "e"] [.d (.int way), .d sd, .l j]) S1)) := by
        intro nd hsh h
        refine ⟨sd, nd, j, rfl, hs, hj, hsh, ?_, fun hset S' l => air1 S' l hset, fun hset hn S' l => ?_, fun hset hn S' d l => ?_⟩
        · rcases h with h | h
          · exact .inl h.1
          · exact .inr h.1
        · rcases h with h | h
          · exact absurd h.1 hn
          · exact air2 S' l hset h.2.2
        · rcases h with h | h
          · exact good hset (by rw [h.2]; decide) S' l
          · exact absurd hn h.2.1
      refine ⟨_, rfl, ts_int rfl (ite3 (fun h => ?_) (fun h => ?_))⟩
      · refine ⟨_, rfl, by show 1 ≤ sizeLine; decide, _, rfl, ?_⟩
        exact key swD (by decide +kernel) (.inl ⟨rfl, of_decide_eq_true h⟩)
      · refine ⟨_, rfl, ?_⟩
        exact key (.str "switch") (by decide +kernel) (.inr ⟨fun na ni => rfl, (fun z => by cases z), by have := of_decide_eq_false h; omega⟩)
end
end Lw
end
section
set_option Elab.async false
set_option linter.all false
set_option maxRecDepth 100000
set_option maxHeartbeats 4000000
/-! law_k02: the law. -/
namespace Lw
open PySem PySem.Spec PyProof.Rows L2 Mx So L3 St Mc Bx Pg L2H Gd
section
variable {P : Program} {w : World} {K : PySem.W.Frag} {mg : Str → Option Value} {base : Heap}
abbrev sLaw : Stmt := top 62
abbrev nLaw : List Str := ["script", "box", "turn", "setup", "journal", "way", "bad", "shown", "ways", "edge", "error"]
theorem scLaw : FnScope nLaw ["script"] (defScope sLaw) := ⟨rfl, rfl, rfl, by decide +kernel, rfl, by decide +kernel, by decide +kernel⟩
def spLaw (K : PySem.W.Frag) (b : Addr) : Sp := fun vs H Q _ => ∃ (a : Addr) (ns : List Int) (ob o2 : Obj), vs = [.ref a] ∧ SqL K H a (ns.map V.int) ∧ ns.length ≤ 63 ∧ H a = some (.frz ob (.lst (ns.map V.int))) ∧ H b = some (.frz o2 (.tup [.str "switch"])) ∧ ∀ H', Q (.bl true) H'
/-! ### readings -/
theorem set_ok {is : List (List Int)} {as : List Int} {sh fe : Int} (ok : OkS is as sh fe) : isSet (suD is as sh fe) = true := by
  have hnum : ∀ (lo hi : Int) (xs : List Int), (∀ x ∈ xs, lo ≤ x ∧ x ≤ hi) → (xs.map PyData.int).all (isNum lo hi) = true := by
    intro lo hi xs h
    rw [List.all_eq_true]
    intro d hd
    obtain ⟨x, hx, rfl⟩ := List.mem_map.mp hd
    have := h x hx
    show (decide (lo ≤ x) && decide (x ≤ hi)) = true
    rw [decide_eq_true this.1, decide_eq_true this.2]
    rfl
  have htup : ∀ (lo hi : Int) (ds : List PyData), lo ≤ ds.length → (ds.length : Int) ≤ hi → isTup lo hi (.tuple ds) = true := by
    intro lo hi ds h1 h2
    show (decide (lo ≤ (ds.length : Int)) && decide ((ds.length : Int) ≤ hi)) = true
    rw [decide_eq_true h1, decide_eq_true h2]
    rfl
  have hhold : ∀ b ∈ is, isHold (intsD b) = true := by
    intro b hb
    obtain ⟨h1, h2, h3⟩ := ok.ib b hb
    show (isTup 1 3 (.tuple (b.map PyData.int)) && (b.map PyData.int).all (isNum 0 1000000000)) = true
    rw [htup 1 3 _ (by rw [List.length_map]; omega) (by rw [List.length_map]; omega), hnum _ _ b h3]
    rfl
  have hiss : isIss (.tuple (is.map intsD)) = true := by
    have := ok.i1
    have := ok.i2
    show (isTup 1 2 _ && (is.map intsD).all isHold) = true
    rw [htup 1 2 _ (by rw [List.length_map]; omega) (by rw [List.length_map]; omega), List.all_eq_true.mpr (fun d hd => by
      obtain ⟨b, hb, rfl⟩ := List.mem_map.mp hd
      exact hhold b hb)]
    rfl
  have hacq : isAcq (.tuple (as.map .int)) = true := by
    have := ok.a1
    have := ok.a2
    show (isTup 1 2 _ && (as.map PyData.int).all (isNum 1 3)) = true
    rw [htup 1 2 _ (by rw [List.length_map]; omega) (by rw [List.length_map]; omega), hnum _ _ as ok.ab]
    rfl
  show (isIss _ && (isAcq _ && (isNum 0 300 (.int sh) && isNum sh 500 (.int fe)))) = true
  rw [hiss, hacq]
  show (true && (true && ((decide (0 ≤ sh) && decide (sh ≤ 300)) && (decide (sh ≤ fe) && decide (fe ≤ 500))))) = true
  rw [decide_eq_true ok.s1, decide_eq_true ok.s2, decide_eq_true ok.f1, decide_eq_true ok.f2]
  rfl
theorem ne_dat {a b : PyData} {S : Sto} {Q : Bool → Sto → Prop} (h1 : SeqAt.shaped a = true) (h2 : SeqAt.shaped b = true) (e : PyData.eqv a b = true) (q : Q false S) : oEqD true (.d a) (.d b) S fun x S1 => ∃ k, x = .d (.bool k) ∧ Q k S1 := by
  refine ⟨a, b, rfl, rfl, h1, h2, _, rfl, ?_⟩
  rw [e]
  exact q
theorem eq_dat {a b : PyData} {S : Sto} {Q : K3} (h1 : SeqAt.shaped a = true) (h2 : SeqAt.shaped b = true) (e : PyData.eqv a b = true) (q : Q (.d (.bool true)) S) : oEqD false (.d a) (.d b) S Q := by
  refine ⟨a, b, rfl, rfl, h1, h2, ?_⟩
  rw [e]
  exact q
theorem ne_nil {c c' : L} {S : Sto} {Q : Bool → Sto → Prop} (h : S c = some (.lst [])) (h' : S c' = some (.lst [])) (q : Q false S) : oEqL true (.l c) (.l c') S fun x S1 => ∃ k, x = .d (.bool k) ∧ Q k S1 := by
  refine ⟨.list [], .list [], .inr ⟨c, [], [], rfl, h, rfl, rfl⟩, .inr ⟨c', [], [], rfl, h', rfl, rfl⟩, by decide +kernel, by decide +kernel, _, rfl, ?_⟩
  have e : PyData.eqv (.list []) (.list []) = true := by decide +kernel
  rw [e]
  exact q
theorem test_op {r : R3} {u v : TE3} {σ : St3} {S : Sto} {Q : Bool → Sto → Prop} (h : u σ S fun x S1 => v σ S1 fun y S2 => r x y S2 fun x S3 => ∃ k, x = .d (.bool k) ∧ Q k S3) : uTest (uOp r u v) σ S Q := h
theorem op_go {r : R3} {u v : TE3} {σ : St3} {S : Sto} {Q : K3} (h : u σ S fun x S1 => v σ S1 fun y S2 => r x y S2 Q) : uOp r u v σ S Q := h
theorem ret_and {u v : TE3} {D : Ends3} {σ : St3} {S : Sto} (h : u σ S fun x S1 => ∃ c, x = .d (.bool c) ∧ if c = true then v σ S1 D.rt else D.rt (.d (.bool false)) S1) : uRet (uAndV u v) D σ S := h
theorem yes_go3 {A B : Prop} (h : A) : if true = true then A else B := by
  rw [if_pos rfl]
  exact h
theorem c_go {d : PyData} {σ : St3} {S : Sto} {Q : K3} (h : Q (.d d) S) : uC d σ S Q := h
theorem or_go {A B : TT3} {σ : St3} {S : Sto} {Q : Bool → Sto → Prop} (h : A σ S fun c S1 => if c = true then Q true S1 else B σ S1 Q) : uOr A B σ S Q := h
theorem ifs_go {A : TT3} {ta tb : TS3} {D : Ends3} {σ : St3} {S : Sto} (h : A σ S fun c S1 => if c = true then ta D σ S1 else tb D σ S1) : uIfS A ta tb D σ S := h
theorem no_go {A B : Prop} (h : B) : if false = true then A else B := by
  rw [if_neg (by decide)]
  exact h
theorem walk_rng {n : Nat} {ua : TA3} {σ : St3} {S : Sto} (hn : n ≤ 100) (hu : ∀ R : List Im → Sto → Prop, R [.d (.int n)] S → ua σ S R) :
    ∀ R : Wk → Sto → Prop, (∀ W S1, Lays S S1 → W.n = ((List.range n).map fun i => Im.d (.int (i : Nat))).length → (∀ i it, i < W.n → W.item i it → ((List.range n).map fun i => Im.d (.int (i : Nat)))[i]? = some it) → (∀ S', Lays S1 S' → W.ok S') → R W S1) → wR ua σ S R := fun R hR =>
  hu _ ⟨n, rfl, by omega, hR _ S (Lays.refl S) (by rw [List.length_map, List.length_range]) (fun i it hi h => by
    have hi' : i < n := hi
    have h' : it = .d (.int i) := h
    rw [List.getElem?_map, List.getElem?_range hi', h']
    rfl) fun _ _ => trivial⟩
theorem walk_ls {u : TE3} {σ : St3} {S : Sto} {c : L} {xs : List Im} (hu : ∀ R : K3, R (.l c) S → u σ S R) (hc : S c = some (.lst xs)) :
    ∀ R : Wk → Sto → Prop, (∀ W S1, Lays S S1 → W.n = xs.length → (∀ i it, i < W.n → W.item i it → xs[i]? = some it) → (∀ S', Lays S1 S' → W.ok S') → R W S1) → wL u σ S R := fun R hR =>
  hu _ ⟨c, _, rfl, hc, hR _ S (Lays.refl S) rfl (fun i it _ h => h) fun S' l => l.at_ hc⟩
theorem ways_any {T : TT3} {ua ub : TA3} {σ : St3} {S : Sto} {Q : K3} {as bs : List Int} (hT : ∀ R : Bool → Sto → Prop, (∀ c, R c S) → T σ S R) (ha : ∀ R : List Im → Sto → Prop, R (as.map fun i => .d (.int i)) S → ua σ S R) (hb : ∀ R : List Im → Sto → Prop, R (bs.map fun i => .d (.int i)) S → ub σ S R)
    (la : as.length < 100) (lb : bs.length < 100) (k : ∀ (ws : List Int) S' c, (ws = as ∨ ws = bs) → Lays S S' → S' c = some (.lst (ws.map fun i => .d (.int i))) → Q (.l c) S') : uIf T (uLst ua) (uLst ub) σ S Q := by
  refine hT _ fun c => ?_
  cases c with
  | true => exact ha _ ⟨by rw [List.length_map, sizeLine_eq]; omega, .inl fun p hp => k as _ _ (.inl rfl) ((Lays.refl S).new (.inl hp)) put_same⟩
  | false => exact hb _ ⟨by rw [List.length_map, sizeLine_eq]; omega, .inl fun p hp => k bs _ _ (.inr rfl) ((Lays.refl S).new (.inl hp)) put_same⟩
/-- an error that is made -/
structure Exo (K : PySem.W.Frag) (mg : Str → Option Value) (c0 : Addr) (x : Str) (c : Addr) : Prop where
  q : PySem.W.excIn K c [.type "ValueError", .type "Exception", .type "BaseException", .type "object"] "ValueError.__new__" = true
  m : mg x = some (.ref c)
  k : PySem.W.keepIn K (.ref c) = true
  e : ExcC K c
  s : LT.StrC K c
  i : PySem.W.kitOne K (.ref c) (.ref c0) = some true
structure TxtL (mg : Str → Option Value) : Prop where
  range : mg "range" = none
  repr : mg "repr" = none
  isi : mg "isinstance" = none
  str : mg "str" = none
theorem ok_law {f fB fS fI fJ fR fP b c0 c1 c2 c3 c4 CN : Addr} {fd fdB fdS fdI fdJ fdR fdP : FuncData} (F : Fun K "law" "law" sLaw f fd) (T : TxtL mg)
    (GB : FnOk P w K mg base CX0 1 fB fdB ["script"] (spBox K)) (bB : Binds K fdB ["script"] []) (mB : mg "_law_box" = some (.ref fB)) (kB : PySem.W.keepIn K (.ref fB) = true)
    (GS : FnOk P w K mg base (LT.CX P w) 3 fS fdS ["box"] (spOf P w spSet)) (bS : Binds K fdS ["box"] []) (mS : mg "_law_setup" = some (.ref fS)) (kS : PySem.W.keepIn K (.ref fS) = true)
    (GI : FnOk P w K mg base (LT.CX P w) 7 fI fdI ["self", "setup"] (spOf P w (spNetI K b c1))) (bI : Binds K fdI ["self", "setup"] []) (mI : mg "Network" = some (.ref CN)) (MI : Mk K CN fI) (oN : Oc K CN netN)
    (GJ : FnOk P w K mg base (LT.CX P w) 5 fJ fdJ ["self", "node"] (spOf P w (spJrn K b CN))) (bJ : Binds K fdJ ["self", "node"] []) (hJ : Meth K CN "journal" fJ)
    (GR : FnOk P w K mg base (LT.CX P w) 9 fR fdR ["way", "setup", "journal"] (spOf P w (spRef b))) (bR : Binds K fdR ["way", "setup", "journal"] []) (mR : mg "_law_refused" = some (.ref fR)) (kR : PySem.W.keepIn K (.ref fR) = true)
    (GP : FnOk P w K mg base (LT.CX P w) 3 fP fdP ["box", "setup"] (spOf P w spSpo)) (bP : Binds K fdP ["box", "setup"] []) (mP : mg "_law_spoilt" = some (.ref fP)) (kP : PySem.W.keepIn K (.ref fP) = true)
    (X0 : Exo K mg c0 "AcquitError" c0) (X1 : Exo K mg c0 "BadSetup" c1) (X2 : Exo K mg c0 "NoSuch" c2) (X3 : Exo K mg c0 "BadStage" c3) (X4 : Exo K mg c0 "Stopped" c4) :
    FnG P w K mg base (LT.CX P w) 10 f fd ["script"] (spLaw K b) := by
  refine body_ok F scLaw (fun vs H Q E h => ?_) (fun cdv A outer s H vs Q E hg hr h => ?_)
  · obtain ⟨a, ns, ob, o2, rfl, _⟩ := h
    rfl
  have hr1 : Room 1 _ := hr.mono (by decide)
  have hr3 : Room 3 _ := hr.mono (by decide)
  have hr5 : Room 5 _ := hr.mono (by decide)
  have hr8 : Room 8 _ := hr.mono (by decide)
  have hu : (A.deeper (PyProof.Rows.envOfC "law" (defScope sLaw) s.heap.objs.size f cdv)).units + 64 < cLine := Nat.lt_of_le_of_lt (by omega) hr.units
  have hu2 : (A.deeper (PyProof.Rows.envOfC "law" (defScope sLaw) s.heap.objs.size f cdv)).units + 2 < cLine := Nat.lt_of_le_of_lt (by omega) hu
  have tk : LT.Takes (cxOf (LT.CX P w) P w K mg base nLaw "law" (defScope sLaw) f cdv A outer s H E).nox zNo.z := LT.takes0
  obtain ⟨u, hu3, hq⟩ : ∃ u, PSs3 (cxOf (LT.CX P w) P w K mg base nLaw "law" (defScope sLaw) f cdv A outer s H E).nox zNo (defBody sLaw).tail u ∧
      ∀ (a : Addr) (S : Sto) (D3 : Ends3), BoxOn S → S .swl = some (.sw b) → (∀ S', D3.rt (.d (.bool true)) S') → u D3 [some (.a a), some (.l .box), none, none, none, none, none, none, none, none, none] S := by
    refine ⟨_, ss_cons (s3_for (PassesOwn.never) rfl (i3_range rfl T.range (a3_cons e3_int a3_nil)) (g3_name (i := 2) scLaw.nd rfl (Or.inl rfl))
      (ss_cons (s3_set (i := 3) scLaw.nd rfl (Or.inr rfl) (e3_call GS hr3 rfl mS kS bS (a3_cons (v3 1) a3_nil)))
      (ss_cons (s3_set (i := 4) scLaw.nd rfl (Or.inr rfl) (e3_mth tk zNo_ze oN.cl hJ GJ hr5 bJ (e3_obj tk zNo_ze MI GI hr8 rfl mI bI (a3_cons (v3 3) a3_nil)) (a3_cons (e3_tup (a3_cons e3_str a3_nil)) a3_nil)))
      (ss_cons (s3_if (PW3.pt (w3_or (t3_cmp (op_neD hr.units) up_neL
          (e3_lc (own := [("way", 5)]) (g := .one 5) rfl scLaw.nd (i3_range rfl T.range (a3_cons e3_int a3_nil)) (blkOk_by (N := nLaw) (sc := defScope sLaw) (by decide +kernel)) (fun j hj => hj) (fun _ _ _ _ _ => b3_one (i := 5) scLaw.nd rfl (Or.inl rfl))
            (fun _ _ _ _ _ => ts3_one (by exact t3_cmp (op_neD hr.units) up_neD (e3_call GR hr (by rfl) mR kR bR (a3_cons (v3 5) (a3_cons (v3 3) (a3_cons (v3 4) a3_nil)))) e3_str (nomark _))) (fun _ _ _ _ _ => by exact v3 5))
          (e3_lst a3_nil) (nomark _))
        (w3_or1 (t3_cmp (op_neD hr.units) up_neD (e3_call GR hr rfl mR kR bR (a3_cons e3_int (a3_cons (v3 3) (a3_cons (v3 4) a3_nil)))) (e3_tup (a3_cons e3_str (a3_cons e3_str a3_nil))) (nomark _))))) (ss_one (s3_ret e3_bl)) ss_nil)
      (ss_cons (s3_set (i := 6) scLaw.nd rfl (Or.inr rfl) (e3_call GP hr3 rfl mP kP bP (a3_cons (v3 1) (a3_cons (v3 3) a3_nil))))
      (ss_cons (s3_set (i := 7) scLaw.nd rfl (Or.inl rfl) (e3_repr hg hu rfl T.repr (by decide +kernel) (a3_cons (v3 6) a3_nil)))
      (ss_cons (s3_set (i := 8) scLaw.nd rfl (Or.inl rfl) (e3_ifExp (PW3.pt (w3_or (t3_cmp op_in_str up_inAny e3_str (v3 7) (by rfl)) (w3_or (t3_cmp op_in_str up_inAny e3_str (v3 7) (by rfl)) (w3_or1 (t3_cmp op_in_str up_inAny e3_str (v3 7) (by rfl))))))
          (e3_lst (a3_cons e3_int a3_nil)) (e3_lst (a3_cons e3_int (a3_cons e3_int (a3_cons e3_int (a3_cons e3_int a3_nil)))))))
      (ss_one (s3_if (t3_cmp (op_neD hr.units) up_neL
          (e3_lc (own := [("way", 5)]) (g := .one 5) rfl scLaw.nd (i3_list (v3 8)) (blkOk_by (N := nLaw) (sc := defScope sLaw) (by decide +kernel)) (fun j hj => hj) (fun _ _ _ _ _ => b3_one (i := 5) scLaw.nd rfl (Or.inl rfl))
            (fun _ _ _ _ _ => ts3_one (by exact t3_cmp (op_neD hr.units) up_neD (e3_call GR hr (by rfl) mR kR bR (a3_cons (v3 5) (a3_cons (v3 6) (a3_cons (v3 4) a3_nil)))) (e3_tup (a3_cons e3_str (a3_cons e3_str a3_nil))) (nomark _))) (fun _ _ _ _ _ => by exact v3 5))
          (e3_lst a3_nil) (nomark _)) (ss_one (s3_ret e3_bl)) ss_nil)))))))))
    (ss_cons (s3_set (i := 9) scLaw.nd rfl (Or.inl rfl) (e3_tup (a3_cons (e3_tup (a3_cons (e3_tup (a3_cons e3_int (a3_cons (e3_op op_pow (up_I fun _ _ _ => .int _) e3_int e3_int) (a3_cons e3_int a3_nil)))) (a3_cons (e3_tup (a3_cons e3_int a3_nil)) a3_nil)))
        (a3_cons (e3_tup (a3_cons e3_int (a3_cons e3_int a3_nil))) (a3_cons e3_int (a3_cons e3_int a3_nil))))))
    (ss_cons (s3_for (PassesOwn.never) rfl (i3_tupD (a3_cons (e3_xo PySem.F.excBase_ValueError X0.q X0.m X0.k rfl) (a3_cons (e3_xo PySem.F.excBase_ValueError X1.q X1.m X1.k rfl) (a3_cons (e3_xo PySem.F.excBase_ValueError X3.q X3.m X3.k rfl)
        (a3_cons (e3_xo PySem.F.excBase_ValueError X2.q X2.m X2.k rfl) (a3_cons (e3_xo PySem.F.excBase_ValueError X4.q X4.m X4.k rfl) a3_nil)))))) (g3_name (i := 10) scLaw.nd rfl (Or.inl rfl))
      (ss_one (s3_if (PW3.pt (w3_or (t3_not (t3_val (e3_callB call_isXo up_isXo rfl T.isi (by decide +kernel) (a3_cons (v3 10) (a3_cons (e3_ga rfl X0.m) a3_nil)))))
        (w3_or1 (t3_cmp op_ne up_ne (e3_callTy (call_strXo hu2) up_strXo rfl T.str (by decide +kernel) (a3_cons (v3 10) a3_nil)) e3_str (nomark _))))) (ss_one (s3_ret e3_bl)) ss_nil)))
    (ss_one (s3_ret (e3_and (e3_cmp (op_eqD hr.units) up_eqD (e3_call GR hr rfl mR kR bR (a3_cons e3_int (a3_cons (v3 9) (a3_cons (e3_lst a3_nil) a3_nil)))) e3_str (nomark _))
      (e3_one (e3_cmp (op_eqD hr.units) up_eqD (e3_call GR hr rfl mR kR bR (a3_cons e3_int (a3_cons (e3_tup (a3_cons (e3_tup (a3_cons (e3_tup (a3_cons e3_int a3_nil)) a3_nil)) (a3_cons (e3_tup (a3_cons e3_int a3_nil)) (a3_cons e3_int (a3_cons e3_int a3_nil)))))
        (a3_cons (e3_lst a3_nil) a3_nil)))) e3_str (nomark _)))))))), ?_⟩
    have exs : Exo K mg c0 "AcquitError" c0 := X0
    intro a S D3 hb hs hq
    have hset := @set_ok
    have eqLet : PyData.eqv (.str "let") (.str "let") = true := by decide +kernel
    have eqSuch : PyData.eqv (.tuple [.str "refused", .str "such"]) (.tuple [.str "refused", .str "such"]) = true := by decide +kernel
    have eqBad : PyData.eqv (.tuple [.str "refused", .str "setup"]) (.tuple [.str "refused", .str "setup"]) = true := by decide +kernel
    have shLet : SeqAt.shaped (.str "let") = true := by decide +kernel
    have shSuch : SeqAt.shaped (.tuple [.str "refused", .str "such"]) = true := by decide +kernel
    have shBad : SeqAt.shaped (.tuple [.str "refused", .str "setup"]) = true := by decide +kernel
    try dsimp only [uSeq]
    refine ⟨4, rfl, by decide, fun _ σ S => ∃ x2 x3 x4 x5 x6 x7 x8 x9 x10 : Option Im, σ = [some (.a a), some (.l .box), x2, x3, x4, x5, x6, x7, x8, x9, x10] ∧ BoxOn S ∧ S .swl = some (.sw b), ⟨_, _, _, _, _, _, _, _, _, rfl, hb, hs⟩, fun _ _ _ _ _ => trivial, ?_, ?_⟩
    · rintro i it σ S hi hit ⟨x2, x3, x4, x5, x6, x7, x8, x9, x10, rfl, hb, hs⟩
      try dsimp only [uSeq, uAsg, kName, Blk.any, List.set_cons_zero, List.set_cons_succ]
      refine ⟨_, rfl, rfl, hb, fun S1 is as sh fe l1 b1 ok => ?_⟩
      have hs1 := l1.at_ hs (by intro z; cases z)
      have hset := set_ok ok
      try dsimp only [uSeq, uAsg, kName, Blk.any, List.set_cons_zero, List.set_cons_succ]
      refine ⟨_, rfl, .inl fun p hp => ?_⟩
      have lp := (Lays.refl S1).new (e := .ins CN []) (.inl hp)
      refine ⟨.t p, CN, suD is as sh fe, rfl, lp.at_ hs1, put_same, oN, fun z => (by rw [hset] at z; cases z), fun _ is' as' sh' fe' g S2 l2 net => ⟨rfl, ?_⟩⟩
      obtain ⟨pj, pt, pm, kvs, n1, n2, n3⟩ := net
      have l12 := LaysB.lays hp l2
      obtain ⟨pe, hv, he⟩ := jrn_at n3 (l := swK) List.mem_cons_self
      refine ⟨_, _, rfl, n1, rfl, _, rfl, by show 1 ≤ sizeLine; decide, ?_⟩
      refine ⟨.t p, netF (suD is as sh fe) pj pt pm, suD is as sh fe, swK, is', as', sh', fe', .t pj, kvs, .t pe, [], rfl, l12.at_ hs1, n1, rfl, rfl, rfl, g.st, by decide +kernel, node_sw, n2, hv, he, fun S3 pq l3 _ hj => ?_⟩
      have l13 := l12.trans l3
      have b3 := boxOn_lays b1 l13
      have hs3 := l13.at_ hs1
      try dsimp only [uSeq, uAsg, kName, Blk.any, List.set_cons_zero, List.set_cons_succ]
      refine ifs_go (or_go (test_op (L3.lc_none (xs := (List.range 3).map fun i => Im.d (.int (i : Nat))) (walk_rng (n := 3) (by decide) fun R r => r) (fun it hit S' Q' l kq => ?_) fun S4 p4 l4 _ h4 => ?_)))
      · obtain ⟨i, hi, rfl⟩ := List.mem_map.mp hit
        have hi3 : i < 3 := List.mem_range.mp hi
        refine test_op ⟨_, rfl, _, rfl, _, rfl, (i : Int), suD is as sh fe, .t pq, rfl, by omega, by omega, l.at_ hs3, l.at_ hj, fun S4 l4 => ?_⟩
        have e : refA (i : Int) (suD is as sh fe) = .str "let" := by
          unfold refA
          rw [hset, if_pos rfl, if_neg (by omega)]
        rw [e]
        exact ne_dat shLet shLet eqLet (kq S4 l4)
      refine ⟨Nat.zero_le _, .inl fun p5 h5 => ?_⟩
      have l5 := l4.new (e := .lst []) (.inl h5)
      refine ne_nil (by rw [put_ne (by intro z; cases z; rw [h4] at h5; cases h5)]; exact h4) put_same (no_go ?_)
      refine test_op ⟨_, rfl, _, rfl, 3, suD is as sh fe, .t pq, rfl, by decide, by decide, l5.at_ hs3, l5.at_ hj, fun S6 l6 => ?_⟩
      have e3 : refA 3 (suD is as sh fe) = .tuple [.str "refused", .str "such"] := by
        unfold refA
        rw [hset, if_pos rfl, if_pos rfl]
      rw [e3]
      refine ⟨_, rfl, by show 2 ≤ sizeLine; decide, ?_⟩
      refine ne_dat shSuch shSuch eqSuch (no_go ?_)
      have l36 := l5.trans l6
      have b6 := boxOn_lays b3 l36
      have hs6 := l36.at_ hs3
      have hj6 := l36.at_ hj
      try dsimp only [uSeq, uAsg, kName, Blk.any, List.set_cons_zero, List.set_cons_succ]
      refine ⟨_, rfl, _, rfl, is, as, sh, fe, rfl, b6, ok, fun S7 d l7 b7 bd => ?_⟩
      have hs7 := l7.at_ hs6 (by intro z; cases z)
      have hj7 := l7.at_ hj6 (by intro z; cases z)
      try dsimp only [uSeq, uAsg, kName, Blk.any, List.set_cons_zero, List.set_cons_succ]
      refine ⟨_, rfl, .d d, d, rfl, .inl rfl, sm_says bd.2.1, bd.2.2, ?_⟩
      try dsimp only [uSeq, uAsg, kName, Blk.any, List.set_cons_zero, List.set_cons_succ]
      refine ways_any (as := [0]) (bs := [0, 1, 2, 3]) (fun R r => ?_) (fun R r => r) (fun R r => r) (by decide) (by decide) fun ws S8 c8 hw l8 h8 => ?_
      · refine or_go (test_op ⟨_, rfl, _, _, rfl, rfl, fun c => ⟨c, rfl, ite3 (fun _ => r true) (fun _ => ?_)⟩⟩)
        refine or_go (test_op ⟨_, rfl, _, _, rfl, rfl, fun c => ⟨c, rfl, ite3 (fun _ => r true) (fun _ => ?_)⟩⟩)
        exact test_op ⟨_, rfl, _, _, rfl, rfl, fun c => ⟨c, rfl, r c⟩⟩
      have ws3 : ∀ x ∈ ws, 0 ≤ x ∧ x ≤ 3 := by
        rcases hw with rfl | rfl
        · decide
        · decide
      clear hw
      try dsimp only [uSeq, uAsg, kName, Blk.any, List.set_cons_zero, List.set_cons_succ]
      refine ifs_go (test_op (L3.lc_none (walk_ls (fun R r => ⟨_, rfl, r⟩) h8) (fun it hit S' Q' l kq => ?_) fun S9 p9 l9 _ h9 => ?_))
      · obtain ⟨x, hx, rfl⟩ := List.mem_map.mp hit
        have hx3 := ws3 x hx
        have l78 := l8.trans l
        refine test_op ⟨_, rfl, _, rfl, _, rfl, x, d, .t pq, rfl, hx3.1, hx3.2, l78.at_ hs7, l78.at_ hj7, fun S4 l4 => ?_⟩
        have e : refA x d = .tuple [.str "refused", .str "setup"] := by
          unfold refA
          rw [bd.1]
          rfl
        rw [e]
        refine ⟨_, rfl, by show 2 ≤ sizeLine; decide, ?_⟩
        exact ne_dat shBad shBad eqBad (kq S4 l4)
      refine ⟨Nat.zero_le _, .inl fun p10 h10 => ?_⟩
      have l10 := (l8.trans l9).new (e := .lst []) (.inl h10)
      refine ne_nil (by rw [put_ne (by intro z; cases z; rw [h9] at h10; cases h10)]; exact h9) put_same (no_go ?_)
      exact ⟨_, _, _, _, _, _, _, _, _, rfl, boxOn_lays b7 l10, l10.at_ hs7⟩
    · rintro σ S ⟨x2, x3, x4, x5, x6, x7, x8, x9, x10, rfl, hb, hs⟩
      try dsimp only [uSeq, uAsg, kName, Blk.any, List.set_cons_zero, List.set_cons_succ]
      refine ⟨10, 9, rfl, rfl, ⟨by decide, by decide, by decide⟩, _, rfl, by show 3 ≤ sizeLine; decide, _, rfl, by show 1 ≤ sizeLine; decide, _, rfl, by show 2 ≤ sizeLine; decide, _, rfl, by show 2 ≤ sizeLine; decide, _, rfl, by show 4 ≤ sizeLine; decide, ?_⟩
      try dsimp only [uSeq, uAsg, kName, Blk.any, List.set_cons_zero, List.set_cons_succ]
      refine .inl fun p0 h0 => .inl fun p1 h1 => .inl fun p2 h2 => .inl fun p3 h3 => .inl fun p4 h4 => ⟨by show 5 ≤ sizeLine; decide, ?_⟩
      have l0 := (Lays.refl S).new (e := .xo c0) (.inl h0)
      have l1 := (Lays.refl _).new (e := .xo c1) (.inl h1)
      have l2 := (Lays.refl _).new (e := .xo c3) (.inl h2)
      have l3 := (Lays.refl _).new (e := .xo c2) (.inl h3)
      have l4 := (Lays.refl _).new (e := .xo c4) (.inl h4)
      have a4 : (((((S.put (.t p0) (.xo c0)).put (.t p1) (.xo c1)).put (.t p2) (.xo c3)).put (.t p3) (.xo c2)).put (.t p4) (.xo c4)) (.t p4) = some (.xo c4) := put_same
      have a3 := l4.at_ (d := .t p3) (e := .xo c2) put_same
      have a2 := (l3.trans l4).at_ (d := .t p2) (e := .xo c3) put_same
      have a1 := ((l2.trans l3).trans l4).at_ (d := .t p1) (e := .xo c1) put_same
      have a0 := (((l1.trans l2).trans l3).trans l4).at_ (d := .t p0) (e := .xo c0) put_same
      have lA := (((l0.trans l1).trans l2).trans l3).trans l4
      have hsA := lA.at_ hs
      generalize ((((S.put (.t p0) (.xo c0)).put (.t p1) (.xo c1)).put (.t p2) (.xo c3)).put (.t p3) (.xo c2)).put (.t p4) (.xo c4) = SA at a0 a1 a2 a3 a4 lA hsA ⊢
      refine ⟨fun _ σ S' => S' = SA ∧ ∃ x10 : Option Im, σ = [some (.a a), some (.l .box), x2, x3, x4, x5, x6, x7, x8, some (.d (.tuple [.tuple [.tuple [.int 0, .int 1000000000, .int 1], .tuple [.int 5]], .tuple [.int 3, .int 1], .int 300, .int 500])), x10], ⟨rfl, _, rfl⟩, fun _ _ _ _ _ => trivial, ?_, ?_⟩
      · rintro i it σ S' hi hit ⟨rfl, x10, rfl⟩
        obtain ⟨p, D, rfl, hp, hD, hsD, hk⟩ : ∃ (p D : Addr), it = .l (.t p) ∧ S' (.t p) = some (.xo D) ∧ ExcC K D ∧ LT.StrC K D ∧ PySem.W.kitOne K (.ref D) (.ref c0) = some true := by
          match i, hit with
          | 0, hit =>
            cases hit
            exact ⟨_, _, rfl, a0, X0.e, X0.s, X0.i⟩
          | 1, hit =>
            cases hit
            exact ⟨_, _, rfl, a1, X1.e, X1.s, X1.i⟩
          | 2, hit =>
            cases hit
            exact ⟨_, _, rfl, a2, X3.e, X3.s, X3.i⟩
          | 3, hit =>
            cases hit
            exact ⟨_, _, rfl, a3, X2.e, X2.s, X2.i⟩
          | 4, hit =>
            cases hit
            exact ⟨_, _, rfl, a4, X4.e, X4.s, X4.i⟩
          | i + 5, hit => cases hit
        try dsimp only [uSeq, uAsg, kName, Blk.any, List.set_cons_zero, List.set_cons_succ]
        refine ifs_go (or_go ?_)
        refine ⟨_, rfl, .t p, D, c0, true, rfl, hp, hD, hk, true, rfl, no_go ?_⟩
        refine test_op ⟨_, rfl, .t p, D, rfl, hp, hsD, ?_⟩
        refine ⟨_, _, rfl, rfl, rfl, fun c hc => ⟨_, rfl, ?_⟩⟩
        have e : c = true := hc.mpr rfl
        subst e
        exact no_go ⟨rfl, _, rfl⟩
      · rintro σ S' ⟨rfl, x10, rfl⟩
        have ok1 : isSet (.tuple [.tuple [.tuple [.int 0, .int 1000000000, .int 1], .tuple [.int 5]], .tuple [.int 3, .int 1], .int 300, .int 500]) = true := by decide +kernel
        have ok2 : isSet (.tuple [.tuple [.tuple [.int 0]], .tuple [.int 1], .int 0, .int 0]) = true := by decide +kernel
        have ref0 : ∀ d, isSet d = true → refA 0 d = .str "let" := fun d h => by
          unfold refA
          rw [h, if_pos rfl, if_neg (by decide)]
        try dsimp only
        refine ret_and (op_go ⟨_, rfl, Nat.zero_le _, .inl fun p5 h5 => ?_⟩)
        have l5 := (Lays.refl S').new (e := .lst []) (.inl h5)
        refine ⟨0, _, .t p5, rfl, by decide, by decide, l5.at_ hsA, put_same, fun S5 l6 => ?_⟩
        rw [ref0 _ ok1]
        refine c_go (eq_dat shLet shLet eqLet ?_)
        refine ⟨true, rfl, yes_go3 ?_⟩
        have hs5 := l6.at_ (l5.at_ hsA)
        refine op_go ⟨_, rfl, by show 1 ≤ sizeLine; decide, _, rfl, by show 1 ≤ sizeLine; decide, _, rfl, by show 1 ≤ sizeLine; decide, _, rfl, by show 4 ≤ sizeLine; decide, Nat.zero_le _, .inl fun p7 h7 => ?_⟩
        have l7 := (Lays.refl S5).new (e := .lst []) (.inl h7)
        refine ⟨0, _, .t p7, rfl, by decide, by decide, l7.at_ hs5, put_same, fun S7 l8 => ?_⟩
        rw [ref0 _ ok2]
        exact c_go (eq_dat shLet shLet eqLet (hq S7))
  obtain ⟨t, pt, up⟩ := hu3.ex
  refine ⟨_, pss_cons (ps_set (i := 1) scLaw.nd rfl (Or.inl rfl) (pe_call GB hr1 rfl mB kB bB .nil pass0 (pa_cons (pv 0) pa_nil))) pt, ?_⟩
  obtain ⟨a, ns, ob, o2, rfl, hS, hlen, hA, hB, hQ⟩ := h
  refine ⟨_, rfl, a, ns, rfl, hS, hlen, fun b' l cs H' B same => ?_⟩
  obtain ⟨⟨x, c, y, hb', hy⟩, hl'⟩ := B
  have hA' := same a _ hA
  have hB' := same b _ hB
  have nbl : b' ≠ l := by
    rintro rfl
    rw [hb'] at hl'
    have z := HO.lst.inj (Option.some.inj hl')
    match cs, z with
    | [_, _, _, q], z => cases z
  have nba : b' ≠ a := by
    rintro rfl
    rw [hb'] at hA'
    cases hA'
  have nla : l ≠ a := by
    rintro rfl
    rw [hl'] at hA'
    cases hA'
  let ad : L → Addr := fun c => match c with
    | .t p => p
    | .box => b'
    | .cells => l
    | _ => a
  let S : Sto := fun z => if z = .box then some (boxC x c y) else if z = .cells then some (.lst (cs.map fun n => .d (.int n))) else if z = .swl then some (.sw b) else none
  have s1 : S .box = some (boxC x c y) := rfl
  have s2 : S .cells = some (.lst (cs.map fun n => .d (.int n))) := rfl
  have s3 : S .swl = some (.sw b) := rfl
  have only : ∀ z, S z ≠ none → z = .box ∨ z = .cells ∨ z = .swl := by
    intro z hz
    by_cases e1 : z = .box
    · exact .inl e1
    · by_cases e2 : z = .cells
      · exact .inr (.inl e2)
      · by_cases e3 : z = .swl
        · exact .inr (.inr e3)
        · exact absurd (show S z = none from (if_neg e1).trans ((if_neg e2).trans (if_neg e3))) hz
  have cellI : ∀ zs : List Int, Paired (ItAt H' ad S) (zs.map V.int) (zs.map fun n => .d (.int n)) := by
    intro zs
    induction zs with
    | nil => exact .nil
    | cons z zs ih => exact .cons (.int z) ih
  have R : Rep P w H' ad S := by
    refine ⟨fun z e hz => ?_, fun z z' hz hz' e => ?_, fun p => rfl⟩
    · rcases only z (by rw [hz]; exact fun q => nomatch q) with rfl | rfl | rfl
      · rw [s1] at hz
        obtain rfl := Option.some.inj hz
        exact ⟨_, hb', .cons (.int _) (.cons (.int _) (.cons (.int _) (.cons ⟨rfl, by rw [s2]; exact fun q => nomatch q⟩ .nil)))⟩
      · rw [s2] at hz
        obtain rfl := Option.some.inj hz
        exact ⟨_, hl', cellI cs⟩
      · rw [s3] at hz
        obtain rfl := Option.some.inj hz
        exact ⟨⟨_, hA', (fun _ q => by cases q), fun _ _ q => by cases q⟩, .inr ⟨rfl, _, hB'⟩⟩
    · rcases only z hz with rfl | rfl | rfl <;> rcases only z' hz' with rfl | rfl | rfl
      · rfl
      · exact absurd e nbl
      · exact absurd e nba
      · exact absurd e.symm nbl
      · rfl
      · exact absurd e nla
      · exact absurd e.symm nba
      · exact absurd e.symm nla
      · rfl
  have sl0 : Slots P w zNo H' ad S (L2.start nLaw [.ref a]) (start3 nLaw [.a a]) := ⟨slots_start (.cons rfl .nil), fun _ _ _ _ _ _ _ _ _ z => z⟩
  have sl1 := sl0.set 1 (v := .ref b') (it := .l .box) ⟨rfl, by rw [s1]; exact fun q => nomatch q⟩
  refine up _ _ H' ad S _ ⟨fun _ _ => False, fun it _ => it = .d (.bool true), fun _ _ => False, fun _ _ => False⟩ R sl1 (hq a S _ ⟨x, c, y, cs, hy, s1, s2⟩ s3 fun _ => rfl) ⟨fun _ _ _ _ _ _ _ _ z => z.elim, ?_, fun _ _ _ _ _ _ _ _ z => z.elim, fun _ _ _ _ _ _ _ _ z => z.elim⟩
  rintro v H2 ad2 S2 it R2 n2 i2 rfl
  obtain rfl := Dt.blI i2
  exact hQ H2
end
end Lw
end
section
set_option Elab.async false
set_option linter.all false
set_option maxRecDepth 100000
set_option maxHeartbeats 1000000
/-! A head that asks facts only, of a range of addresses; one constant tuple of the module is tracked besides the script. -/
namespace Hk4
open PySem PySem.Spec PyProof.Rows L2
/-- a list of the module is of no concern, nor is the constant -/
def keepQ (cw : Addr) (q : Addr × Obj) : Bool := !(decide (q.1 = cw)) && (match q.2.cls with
  | .type t => !(decide (t = "list"))
  | _ => true)
def asR (b n : Nat) : List Addr := mainGlobals :: cStatics :: (List.range n).map (b + ·)
def frS (g : Addr → Option Obj) (b n : Nat) (cw : Addr) : PySem.W.Frag := (He.frG g (asR b n)).filter (keepQ cw)
def swC : Value → Bool
  | .type t => decide (t = "tuple")
  | _ => false
def swL (x : Str) : List Value → Bool
  | [.str y _] => decide (y = x)
  | _ => false
def swD (x : Str) : Data → Bool
  | .seq vs _ => swL x vs.toList
  | _ => false
def swOk (x : Str) : Option Obj → Bool
  | some o => swC o.cls && swD x o.data
  | none => false
/-- the constant: a tuple of one text -/
def SwAt (x : Str) (h : Heap) (cw : Addr) : Prop := ∃ (o : Obj) (t : Tok) (n : Nat), h.get? cw = some o ∧ o.cls = .type "tuple" ∧ o.data = .seq [Value.str x t].toArray n
theorem sw_at {x : Str} {h : Heap} {cw : Addr} (e : swOk x (h.get? cw) = true) : SwAt x h cw := by
  cases q : h.get? cw with
  | none =>
    rw [q] at e
    cases e
  | some o =>
    rw [q] at e
    obtain ⟨oc, od, dt, osl⟩ := o
    obtain ⟨e1, e2⟩ := He.ba (show (swC oc && swD x dt) = true from e)
    cases oc with
    | type t =>
      have et : t = "tuple" := of_decide_eq_true e1
      subst et
      cases dt with
      | seq vs n =>
        obtain ⟨l⟩ := vs
        have e3 : swL x l = true := e2
        match l, e3 with
        | [.str y t], e3 =>
          have ey : y = x := of_decide_eq_true e3
          subst ey
          exact ⟨_, t, n, q, rfl, rfl⟩
      | _ => cases e2
    | _ => cases e1
theorem lk_mem {a : Addr} {o : Obj} : ∀ {K : PySem.W.Frag}, K.lookup a = some o → (a, o) ∈ K
  | (b, u) :: r, e => by
    rw [List.lookup_cons] at e
    cases q : a == b with
    | true =>
      rw [q] at e
      have eb : a = b := eq_of_beq q
      subst eb
      cases e
      exact List.mem_cons_self
    | false =>
      rw [q] at e
      exact List.mem_cons_of_mem _ (lk_mem e)
theorem fr_mem {g : Addr → Option Obj} {as : List Addr} {a : Addr} {o : Obj} (h : (a, o) ∈ He.frG g as) : g a = some o := by
  obtain ⟨b, hb, e⟩ := List.mem_filterMap.mp h
  cases q : g b with
  | none =>
    rw [q] at e
    cases e
  | some u =>
    rw [q] at e
    cases e
    exact q
theorem frS_in {h : Heap} {b n : Nat} {cw : Addr} : (frS h.get? b n cw).In h := fun a o e => fr_mem (List.mem_filter.mp (lk_mem e)).1
/-- what the fragment has not -/
structure Off (K : PySem.W.Frag) (cw : Addr) : Prop where
  cw : K.lookup cw = none
  lst : ∀ a o, K.lookup a = some o → o.cls ≠ .type "list"
theorem frS_off {g : Addr → Option Obj} {b n : Nat} {cw : Addr} : Off (frS g b n cw) cw := by
  have main : ∀ a o, (frS g b n cw).lookup a = some o → a ≠ cw ∧ o.cls ≠ .type "list" := by
    intro a o e
    obtain ⟨k1, k2⟩ := He.ba (show (!(decide (a = cw)) && _) = true from (List.mem_filter.mp (lk_mem e)).2)
    refine ⟨fun z => ?_, fun z => ?_⟩
    · rw [decide_eq_true z] at k1
      cases k1
    · dsimp only at k2
      rw [z] at k2
      exact absurd k2 (by decide)
  refine ⟨?_, fun a o e => (main a o e).2⟩
  cases q : (frS g b n cw).lookup cw with
  | none => rfl
  | some o => exact absurd rfl (main cw o q).1
def obsF (x : Str) (fa : List (PySem.W.Frag → Bool)) (fn : List He.DefD) (K : PySem.W.Frag) (sw : Option Obj) : He.AlD := ((fa.all fun f => f K) && ((fn.all fun d => d.ok K) && swOk x sw), fn.map fun d => He.fnW K d.at_)
def SaysF (fa : List (PySem.W.Frag → Bool)) (fn : List He.DefD) (K : PySem.W.Frag) : Prop := (∀ f ∈ fa, f K = true) ∧ (∀ d ∈ fn, d.ok K = true) ∧ ∀ d ∈ fn, He.fnW K d.at_ = d.val
def hookS (x : Str) (b n : Nat) (cw : Addr) (fa : List (PySem.W.Frag → Bool)) (fn : List He.DefD) : PySem.W.Hook where
  α := He.AlD
  obs := fun s => obsF x fa fn (frS s.heap.get? b n cw) (s.heap.get? cw)
  val := fun _ => He.valD fn
  says := fun _ h => ∃ K : PySem.W.Frag, K.In h ∧ SaysF fa fn K ∧ Off K cw ∧ SwAt x h cw
  of := fun _ s e => by
    have e1 := congrArg (fun z : He.AlD => z.1) e
    have e2 := congrArg (fun z : He.AlD => z.2) e
    obtain ⟨k1, k2⟩ := He.ba (show ((fa.all fun f => f (frS s.heap.get? b n cw)) && ((fn.all fun d => d.ok (frS s.heap.get? b n cw)) && swOk x (s.heap.get? cw))) = true from e1)
    obtain ⟨k3, k4⟩ := He.ba k2
    exact ⟨_, frS_in, ⟨List.all_eq_true.mp k1, List.all_eq_true.mp k3, fun d hd => List.map_inj_left.mp (show (fn.map fun d => He.fnW (frS s.heap.get? b n cw) d.at_) = fn.map He.DefD.val from e2) d hd⟩, frS_off, sw_at k4⟩
  keeps := fun _ _ _ ⟨K, hK, c, o, q⟩ k => ⟨K, PySem.W.Frag.In.keeps hK k, c, o, by
    obtain ⟨ob, t, n, h1, h2, h3⟩ := q
    exact ⟨ob, t, n, k _ _ h1, h2, h3⟩⟩
def obS (x : Str) (b n : Nat) (cw : Addr) (fa : List (PySem.W.Frag → Bool)) (fn : List He.DefD) (s : PySem.W.SharedT) : He.AlD := obsF x fa fn (frS (HandSHeadRun.getT s) b n cw) (HandSHeadRun.getT s cw)
theorem obS_eq (x : Str) (b n : Nat) (cw : Addr) (fa : List (PySem.W.Frag → Bool)) (fn : List He.DefD) (s : PySem.W.SharedT) : obS x b n cw fa fn s = (hookS x b n cw fa fn).obs s.abs := by
  have e : HandSHeadRun.getT s = s.abs.heap.get? := funext (HandSHeadRun.getT_eq s)
  unfold obS
  rw [e]
  rfl
/-- a def by its statement -/
def dOf (at_ : Str × Option Str) (name qual : Str) (st : Stmt) : He.DefD := ⟨at_, name, qual, defArgs st, defBody st, defScope st, [], []⟩
theorem fun_at {fa : List (PySem.W.Frag → Bool)} {fn : List He.DefD} {K : PySem.W.Frag} {at_ : Str × Option Str} {name qual : Str} {st : Stmt} (c : SaysF fa fn K) (i : Nat) (h : fn[i]? = some (dOf at_ name qual st)) : ∃ fd, Fun K name qual st (He.fAd K at_) fd := by
  have hm := List.mem_of_getElem? h
  obtain ⟨fd, F⟩ := He.DefD.funD (c.2.2 _ hm) (c.2.1 _ hm)
  obtain ⟨oc, od, dV, kV, doc, pm, an, cdv, ct, osl, e, lk, hcd, hd, _⟩ := F.ex
  refine ⟨fd, ⟨oc, od, kV, doc, pm, an, cdv, ct, osl, ?_, lk, hcd⟩, F.kp⟩
  rcases hd with ⟨_, hd⟩ | ⟨hd, _⟩
  · subst hd
    exact e
  · exact absurd rfl hd
theorem fact_at {fa : List (PySem.W.Frag → Bool)} {fn : List He.DefD} {K : PySem.W.Frag} (c : SaysF fa fn K) {f : PySem.W.Frag → Bool} (i : Nat) (h : fa[i]? = some f) : f K = true := c.1 f (List.mem_of_getElem? h)
/-! ### the end -/
def Hs (a cw : Addr) (oa oc : Obj) (ns : List Int) (x : Str) : Hp := fun b => if b = a then some (.frz oa (.lst (ns.map V.int))) else if b = cw then some (.frz oc (.tup [.str x])) else none
theorem law_sw {P : Program} {w : World} {K : PySem.W.Frag} {mg mb : Str → Option Value} {k : Nat} {fa a cw : Addr} {fd : FuncData} {y x : Str} {sp : Sp} {s₁ : Shared} {vs : List Value} {ns : List Int}
    (KX : K.In s₁.heap) (off : Hk4.Off K cw) (hsw : SwAt x s₁.heap cw) (hns : s₁.heap.Ns mainGlobals mg) (hb : s₁.heap.Ns builtinsNs mb) (hbb : ∀ x : Str, x ≠ "__name__" → mb x = bootBuiltins x) (hlim : s₁.heap.NoLimit) (hgen : s₁.gens = #[])
    (ha : s₁.heap.get? a = some { cls := .type "list", data := .seq vs.toArray }) (hi : IntsAre vs ns) (hl : ns.length ≤ sizeLine) (hr : Room k callerA)
    (F : ∀ base : Heap, K.In base → base.Ns mainGlobals mg → Gd.FnG P w K mg base (LT.CX P w) k fa fd [y] sp) (hbind : ∀ (s : Shared) (u : Value), BindsTo s fd ⟨[u], []⟩ [(y, u)])
    (hsp : ∀ (H : Hp) (oa oc : Obj), H a = some (.frz oa (.lst (ns.map V.int))) → SqL K H a (ns.map V.int) → H cw = some (.frz oc (.tup [.str x])) → sp [.ref a] H (fun v _ => v = .bl true) fun _ _ _ => False) :
    codeAny (model P w) callerA (.call (.ref fa) ⟨[.ref a], []⟩) (fun r s' => r = .ok (.ret (.bool true)) ∧ OldK s₁.heap s'.heap ∧ s'.os = s₁.os ∧ AllBare s'.gens) s₁ := by
  obtain ⟨oc, tk, n, hc, hc1, hc2⟩ := hsw
  have nac : cw ≠ a := by
    rintro rfl
    rw [hc] at ha
    cases ha
    exact absurd (Value.type.inj hc1) (by decide)
  have aK : K.lookup a = none := by
    cases q : K.lookup a with
    | none => rfl
    | some o =>
      have e := KX a o q
      rw [ha] at e
      cases e
      exact absurd rfl (off.lst a _ q)
  have rv := vals_ints hi
  generalize hH : Hs a cw { cls := .type "list", data := .seq vs.toArray } oc ns x = H
  have Ha : H a = some (.frz { cls := .type "list", data := .seq vs.toArray } (.lst (ns.map V.int))) := by
    rw [← hH]
    exact if_pos rfl
  have Hc : H cw = some (.frz oc (.tup [.str x])) := by
    rw [← hH]
    exact (if_neg nac).trans (if_pos rfl)
  have only : ∀ b u, H b = some u → b = a ∨ b = cw := by
    intro b u q
    by_cases e1 : b = a
    · exact .inl e1
    · by_cases e2 : b = cw
      · exact .inr e2
      · rw [← hH] at q
        have z : Hs a cw { cls := .type "list", data := .seq vs.toArray } oc ns x b = none := (if_neg e1).trans (if_neg e2)
        rw [z] at q
        cases q
  have ok : HOk P w H s₁.heap := by
    intro b u q
    rcases only b u q with rfl | rfl
    · rw [Ha] at q
      cases q
      refine ⟨ha, ?_, vs, _, rv, ha⟩
      rw [List.length_map]
      exact hl
    · rw [Hc] at q
      cases q
      exact ⟨hc, by show 1 ≤ sizeLine; decide, [.str x tk], .cons ⟨tk, rfl⟩ .nil, oc, hc, hc1, n, hc2⟩
  have free : ∀ {b : Addr} {o : Obj}, s₁.heap.get? b = some o → (∀ us m, o.data ≠ .seq us m) → H b = none := by
    intro b o e h1
    cases q : H b with
    | none => rfl
    | some u =>
      rcases only b u q with rfl | rfl
      · rw [ha] at e
        cases e
        exact absurd rfl (h1 _ _)
      · rw [hc] at e
        cases e
        exact absurd hc2 (h1 _ _)
  have nsK : ∀ {b : Addr} {m : Str → Option Value}, s₁.heap.Ns b m → (hidT s₁.heap H).Ns b m := by
    rintro b m ⟨o, es, ep, e, d, r⟩
    refine ⟨o, es, ep, hidT_get e (free e fun us m z => ?_), d, r⟩
    rw [d] at z
    cases z
  have inB : K.In (hidT s₁.heap H) := by
    intro b o e
    refine hidT_get (KX b o e) ?_
    cases q : H b with
    | none => rfl
    | some u =>
      rcases only b u q with rfl | rfl
      · rw [aK] at e
        cases e
      · rw [off.cw] at e
        cases e
  obtain ⟨mc, l1, l2⟩ := hlim
  have M : Mod K mg (hidT s₁.heap H) := ⟨inB, nsK hns, ⟨mb, nsK hb, hbb⟩, mc, nsK l1, l2⟩
  have e0 : Env0 P w K mg (hidT s₁.heap H) callerA [] s₁ H :=
    ⟨rfl, M, fun b o e => of_hidT e, Nat.le_of_eq (hidT_size _ _), trivial, fun b z => (List.not_mem_nil z).elim, ok, .of_eq hgen⟩
  have run := (F _ inB (nsK hns)).go callerA [] s₁ H ⟨[.ref a], []⟩ [.ref a] [.ref a] _ _ rfl hr e0 (hbind s₁ (.ref a)) (.cons rfl .nil) (hsp H _ _ Ha (.inl (.inr ⟨_, Ha⟩)) Hc)
  refine codeAny_mono run ?_
  intro r s' h
  cases r with
  | error e =>
    obtain ⟨_, _, _, _, _, _, _, out⟩ := h
    exact out.wish.elim
  | ok fl =>
    cases fl with
    | next => exact h.elim
    | brk => exact h.elim
    | cont => exact h.elim
    | ret u =>
      obtain ⟨v, H', os, bare, un, hok', r', q⟩ := h
      have q' : v = .bl true := q
      subst q'
      have ru : u = Value.bool true := r'
      subst ru
      refine ⟨rfl, OldK.of_keep ?_, os, bare⟩
      intro b o e
      cases q : H b with
      | none => exact un.keep b o e q List.not_mem_nil List.not_mem_nil
      | some u =>
        obtain ⟨ob, u2, z⟩ : ∃ ob u2, H b = some (.frz ob u2) := by
          rcases only b u q with rfl | rfl
          · exact ⟨_, _, Ha⟩
          · exact ⟨_, _, Hc⟩
        have e1 := (ok b _ z).1
        have e2 := (hok' b _ (un.frzs b ob _ z)).1
        rw [e] at e1
        cases e1
        exact e2
theorem walk_sw {l : PySem.W.OpenLaw} {k : Nat} {q : Program} {loose : List Str} {XP : (Str → Option Value) → Heap → Prop} {YP : World → Heap → Prop} {d : DefRec} {x : Str} {cw : Addr}
    (hn : l.most = some 63) (hdf : d.params.defaults = []) (hr : Room k callerA)
    (F : ∀ (w : World) (mg : Str → Option Value) (fa : Addr) (h : Heap), YP w h → h.Ns mainGlobals mg → mg d.name = some (.ref fa) →
      ∃ (K : PySem.W.Frag) (fd : FuncData) (sp : Sp), K.In h ∧ Hk4.Off K cw ∧ SwAt x h cw ∧ (∀ (s : Shared) (u : Value), BindsTo s fd ⟨[u], []⟩ [("script", u)]) ∧
        (∀ (H : Hp) (a : Addr) (ns : List Int) (oa oc : Obj), ns.length ≤ 63 → H a = some (.frz oa (.lst (ns.map V.int))) → SqL K H a (ns.map V.int) → H cw = some (.frz oc (.tup [.str x])) → sp [.ref a] H (fun v _ => v = .bl true) fun _ _ _ => False) ∧
        ∀ base : Heap, K.In base → base.Ns mainGlobals mg → Gd.FnG l.prog w K mg base (LT.CX l.prog w) k fa fd ["script"] sp) :
    PySem.W.WalkO q loose XP YP l.row.toRowW d [] (fun f vs => PySem.call f vs) := by
  apply Att.attach_call hn hdf
  intro w s₀ s₁ mg mb fa o pm cd doc a vs ns G Y ho hd hcd hmg hobj hints hlen hg
  obtain ⟨K, fd, sp, KX, off, sw, hb, hsp, hF⟩ := F w mg fa _ Y G.T.g hmg
  exact law_sw KX off sw G.T.g G.T.b G.T.builtins G.T.nolimit hg hobj hints (Nat.le_trans hlen (by decide)) hr hF hb fun H oa oc h1 h2 h3 => hsp H a ns oa oc hlen h1 h2 h3
end Hk4
end
section
set_option Elab.async false
set_option linter.all false
set_option maxRecDepth 100000
set_option maxHeartbeats 0
/-! law_k02: the facts, all together. -/
namespace Lw
open PySem PySem.Spec PyProof.Rows L2 Mx So L3 St Mc Bx Bx2 Pg L2H Gd Hk4 He
def naB (x : Str) (fs : List Str) (K : PySem.W.Frag) : Bool := fs.all fun f => (He.Fa.noat x f).ok K
theorem all_na {K : PySem.W.Frag} {x : Str} {fs : List Str} (h : naB x fs K = true) : ∀ f ∈ fs, NoAttr K (ga K x) f := fun f hf => He.noat_ok (List.all_eq_true.mp h f hf)
def clsV (K : PySem.W.Frag) (x m : Str) : Bool := match PySem.W.findCls K (.ref (ga K x)) (.type "type") m with
  | some (.val (.ref a)) => decide (a = ma K (ga K x) m)
  | _ => false
def dfB (x m : Str) (K : PySem.W.Frag) : Bool := (PySem.W.readsIn K (ga K x) (.type "type") && eqO (PySem.W.specialIn K (.ref (ga K x)) "__getattribute__") (some (some (.builtin "type.__getattribute__")))) && (clsV K x m && PySem.W.keepIn K (.ref (ma K (ga K x) m)))
theorem df_ok {K : PySem.W.Frag} {h : Heap} {mg : Str → Option Value} (X : K.In h) (G : h.Ns mainGlobals mg) {x m : Str} (c : (He.Fa.glo x).ok K = true) (d : dfB x m K = true) : Pg.Df K mg x (ga K x) m (ma K (ga K x) m) := by
  obtain ⟨d1, d2⟩ := ba d
  obtain ⟨d3, d4⟩ := ba d1
  obtain ⟨d5, d6⟩ := ba d2
  refine ⟨He.glo_ok X G c, ⟨d3, eqO_ok d4⟩, ?_, d6⟩
  unfold clsV at d5
  split at d5
  · next a e =>
    rw [e, of_decide_eq_true d5]
  · cases d5
def oB (a b : Option Bool) : Bool := decide (a = b)
def excB (x : Str) (K : PySem.W.Frag) : Bool := ((He.Fa.exc x).ok K && (eqO (PySem.W.findIn K (.ref (ga K x)) "__getattribute__") (some (some (.builtin "BaseException.__getattribute__"))) && eqO (PySem.W.findIn K (.ref (ga K x)) "__getattr__") (some none))) &&
  ((PySem.W.hasDictIn K (ga K x) && eqO (PySem.W.findIn K (.ref (ga K x)) "__class__") (some (some (.builtin "object.__class__")))) && (eqO (PySem.W.specialIn K (.builtin "object.__class__") "__get__") (some (some (.builtin "getset_descriptor.__get__"))) && (oB (PySem.W.takesIn K (.builtin "object.__class__")) (some true) &&
  (oB (PySem.W.mroIn K (ga K x) (.type "object")) (some true) && (eqO (PySem.W.findIn K (.ref (ga K x)) "__str__") (some (some (.builtin "BaseException.__str__"))) && oB (PySem.W.kitOne K (.ref (ga K x)) (.ref (ga K "AcquitError"))) (some true))))))
theorem ty_ok {K : PySem.W.Frag} {x : Str} (d : excB x K = true) : PySem.W.typeIn K (.ref (ga K x)) = some (.type "type") := (He.exc_ok (ba (ba d).1).1).2.2.2
theorem exo_ok {K : PySem.W.Frag} {h : Heap} {mg : Str → Option Value} (X : K.In h) (G : h.Ns mainGlobals mg) {x : Str} (c : (He.Fa.glo x).ok K = true) (d : excB x K = true) : Exo K mg (ga K "AcquitError") x (ga K x) := by
  obtain ⟨d1, d2⟩ := ba d
  obtain ⟨e1, e2⟩ := ba d1
  obtain ⟨q1, q2, q3, q4⟩ := He.exc_ok e1
  obtain ⟨e3, e4⟩ := ba e2
  obtain ⟨d3, d4⟩ := ba d2
  obtain ⟨f1, f2⟩ := ba d3
  obtain ⟨f3, d5⟩ := ba d4
  obtain ⟨f4, d6⟩ := ba d5
  obtain ⟨f5, d7⟩ := ba d6
  obtain ⟨f6, f7⟩ := ba d7
  exact ⟨q1, He.glo_ok X G c, q2, ⟨eqO_ok e3, eqO_ok e4, q3, f1, eqO_ok f2, eqO_ok f3, of_decide_eq_true f4, of_decide_eq_true f5⟩, ⟨eqO_ok f6, q3⟩, of_decide_eq_true f7⟩
def kitC (x y : Str) (b : Bool) (K : PySem.W.Frag) : Bool := decide (PySem.W.kitOne K (.ref (ga K x)) (.ref (ga K y)) = some b)
def kitV (x : Str) (K : PySem.W.Frag) : Bool := decide (PySem.W.kitOne K (.ref (ga K x)) (.type "ValueError") = some true)
def swG (cw : Addr) (K : PySem.W.Frag) : Bool := decide (ga K "SWITCH" = cw)
def cw : Addr := 133
def fa0 : List (PySem.W.Frag → Bool) := [fun K => (He.Fa.glo "law").ok K,
  swG cw,
  fun K => (He.Fa.glo "SWITCH").ok K,
  fun K => (He.Fa.free "isinstance").ok K,
  fun K => (He.Fa.free "bool").ok K,
  fun K => (He.Fa.free "int").ok K,
  fun K => (He.Fa.free "tuple").ok K,
  fun K => (He.Fa.free "len").ok K,
  fun K => (He.Fa.free "all").ok K,
  fun K => (He.Fa.int "MOST_AMOUNT" 1000000000).ok K,
  fun K => (He.Fa.int "MOST_HOUSES" 2).ok K,
  fun K => (He.Fa.int "MOST_MEMBERS" 3).ok K,
  fun K => (He.Fa.int "MOST_SHARE" 300).ok K,
  fun K => (He.Fa.int "MOST_FEE" 500).ok K,
  fun K => (He.Fa.free "abs").ok K,
  fun K => (He.Fa.free "list").ok K,
  fun K => (He.Fa.free "range").ok K,
  fun K => (He.Fa.glo "AcquitError").ok K,
  excB "AcquitError",
  fun K => (He.Fa.glo "BadSetup").ok K,
  excB "BadSetup",
  fun K => (He.Fa.glo "NoSuch").ok K,
  excB "NoSuch",
  fun K => (He.Fa.glo "BadStage").ok K,
  excB "BadStage",
  fun K => (He.Fa.glo "Stopped").ok K,
  excB "Stopped",
  fun K => (He.Fa.glo "_is_tuple").ok K,
  fun K => (He.Fa.glo "is_number").ok K,
  fun K => (He.Fa.glo "_are_holders").ok K]
def fa1 : List (PySem.W.Frag → Bool) := [fun K => (He.Fa.glo "_are_issuers").ok K,
  fun K => (He.Fa.glo "_are_acquirers").ok K,
  fun K => (He.Fa.glo "_is_setup").ok K,
  fun K => (He.Fa.glo "is_pair").ok K,
  fun K => (He.Fa.glo "is_index").ok K,
  fun K => (He.Fa.glo "acquirer_node").ok K,
  fun K => (He.Fa.glo "issuer_node").ok K,
  fun K => (He.Fa.glo "Keeper").ok K,
  dfB "Keeper" "__init__",
  fun K => (He.Fa.glo "nodes_of").ok K,
  fun K => (He.Fa.glo "House").ok K,
  dfB "House" "__init__",
  fun K => (He.Fa.cls "Switch").ok K,
  naB "Switch" Pg.switchN,
  fun K => (He.Fa.cls "Network").ok K,
  naB "Network" Pg.netN,
  fun K => (He.Fa.mkr "Switch").ok K,
  fun K => (He.Fa.glo "Switch").ok K,
  fun K => (He.Fa.mkr "Acquirer").ok K,
  fun K => (He.Fa.glo "Acquirer").ok K,
  fun K => (He.Fa.cls "Acquirer").ok K,
  naB "Acquirer" Pg.acqN,
  fun K => (He.Fa.mkr "Issuer").ok K,
  fun K => (He.Fa.glo "Issuer").ok K,
  fun K => (He.Fa.cls "Issuer").ok K,
  naB "Issuer" Pg.issN,
  fun K => (He.Fa.glo "_first_state").ok K,
  fun K => (He.Fa.free "sorted").ok K,
  fun K => (He.Fa.glo "check_setup").ok K,
  fun K => (He.Fa.glo "is_node").ok K]
def fa2 : List (PySem.W.Frag → Bool) := [fun K => (He.Fa.glo "state_of").ok K,
  fun K => (He.Fa.meth "Switch" "told").ok K,
  fun K => (He.Fa.meth "Network" "_check_node").ok K,
  fun K => (He.Fa.glo "_law_take").ok K,
  fun K => (He.Fa.glo "_law_pick").ok K,
  fun K => (He.Fa.glo "_law_put").ok K,
  kitC "BadSetup" "BadSetup" true,
  kitC "BadSetup" "NoSuch" false,
  kitC "BadSetup" "BadStage" false,
  kitC "BadSetup" "Stopped" false,
  kitV "BadSetup",
  kitC "NoSuch" "BadSetup" false,
  kitC "NoSuch" "NoSuch" true,
  kitC "NoSuch" "BadStage" false,
  kitC "NoSuch" "Stopped" false,
  kitV "NoSuch",
  kitC "BadStage" "BadSetup" false,
  kitC "BadStage" "NoSuch" false,
  kitC "BadStage" "BadStage" true,
  kitC "BadStage" "Stopped" false,
  kitV "BadStage",
  kitC "Stopped" "BadSetup" false,
  kitC "Stopped" "NoSuch" false,
  kitC "Stopped" "BadStage" false,
  kitC "Stopped" "Stopped" true,
  kitV "Stopped",
  fun K => (He.Fa.free "ValueError").ok K,
  fun K => (He.Fa.free "str").ok K,
  fun K => (He.Fa.glo "_law_class").ok K,
  fun K => (He.Fa.glo "rebuilt").ok K]
def fa3 : List (PySem.W.Frag → Bool) := [fun K => (He.Fa.glo "Network").ok K,
  fun K => (He.Fa.mkr "Network").ok K,
  fun K => (He.Fa.exm "BadSetup" "AcquitError" true).ok K,
  fun K => (He.Fa.exm "NoSuch" "AcquitError" true).ok K,
  fun K => (He.Fa.free "repr").ok K,
  fun K => (He.Fa.glo "_law_box").ok K,
  fun K => (He.Fa.glo "_law_setup").ok K,
  fun K => (He.Fa.meth "Network" "journal").ok K,
  fun K => (He.Fa.glo "_law_refused").ok K,
  fun K => (He.Fa.glo "_law_spoilt").ok K]
def fa : List (PySem.W.Frag → Bool) := fa0 ++ (fa1 ++ (fa2 ++ (fa3)))
def fn0 : List (He.DefD) := [dOf ("is_number", none) "is_number" "is_number" St.sNum,
  dOf ("_is_tuple", none) "_is_tuple" "_is_tuple" St.sIsTup,
  dOf ("_are_holders", none) "_are_holders" "_are_holders" St.sHold,
  dOf ("_are_acquirers", none) "_are_acquirers" "_are_acquirers" St.sAcq,
  dOf ("_are_issuers", none) "_are_issuers" "_are_issuers" St.sIss,
  dOf ("_is_setup", none) "_is_setup" "_is_setup" St.sIsSet,
  dOf ("check_setup", none) "check_setup" "check_setup" St.sCheck,
  dOf ("acquirer_node", none) "acquirer_node" "acquirer_node" Pg.sAcqN,
  dOf ("issuer_node", none) "issuer_node" "issuer_node" Pg.sIssN,
  dOf ("is_index", none) "is_index" "is_index" Pg.sIdx,
  dOf ("is_pair", none) "is_pair" "is_pair" Pg.sPair,
  dOf ("is_node", none) "is_node" "is_node" Pg.sNode,
  dOf ("nodes_of", none) "nodes_of" "nodes_of" Pg.sNodes,
  dOf ("Keeper", some "__init__") "__init__" "Keeper.__init__" Pg.sKeep,
  dOf ("House", some "__init__") "__init__" "House.__init__" Pg.sHouse,
  dOf ("Switch", some "__init__") "__init__" "Switch.__init__" Pg.sSwitch,
  dOf ("Acquirer", some "__init__") "__init__" "Acquirer.__init__" Pg.sAcqI,
  dOf ("Issuer", some "__init__") "__init__" "Issuer.__init__" Pg.sIssI,
  dOf ("_first_state", none) "_first_state" "_first_state" Pg.sFirst,
  dOf ("state_of", none) "state_of" "state_of" Pg.sState,
  dOf ("Switch", some "told") "told" "Switch.told" Pg.sTold,
  dOf ("rebuilt", none) "rebuilt" "rebuilt" Pg.sReb,
  dOf ("Network", some "__init__") "__init__" "Network.__init__" Pg.sNetI,
  dOf ("Network", some "_check_node") "_check_node" "Network._check_node" Pg.sChk,
  dOf ("Network", some "journal") "journal" "Network.journal" Pg.sJrn,
  dOf ("_law_box", none) "_law_box" "_law_box" Bx2.sBox,
  dOf ("_law_take", none) "_law_take" "_law_take" Bx2.sTake,
  dOf ("_law_pick", none) "_law_pick" "_law_pick" Bx2.sPick,
  dOf ("_law_setup", none) "_law_setup" "_law_setup" sSet,
  dOf ("_law_put", none) "_law_put" "_law_put" sPut]
def fn1 : List (He.DefD) := [dOf ("_law_spoilt", none) "_law_spoilt" "_law_spoilt" sSpo,
  dOf ("_law_class", none) "_law_class" "_law_class" sClass,
  dOf ("_law_refused", none) "_law_refused" "_law_refused" sRef,
  dOf ("law", none) "law" "law" sLaw]
def fn : List (He.DefD) := fn0 ++ (fn1)
def lo0 : List (PySem.Str) := ["_wall",
  "AcquitError",
  "BadSetup",
  "NoSuch",
  "BadStage",
  "Stopped",
  "WHOLE",
  "MOST_AMOUNT",
  "MOST_HOUSES",
  "MOST_MEMBERS",
  "MOST_SHARE",
  "MOST_FEE",
  "parts",
  "check_setup",
  "is_number",
  "_is_setup",
  "_is_tuple",
  "_are_issuers",
  "_are_holders",
  "_are_acquirers",
  "SWITCH",
  "acquirer_node",
  "issuer_node",
  "nodes_of",
  "is_index",
  "is_pair",
  "is_node",
  "is_card",
  "is_merchant",
  "Keeper"]
def lo1 : List (PySem.Str) := ["House",
  "Purchase",
  "File",
  "Acquirer",
  "Charge",
  "Issuer",
  "KeptFile",
  "Cycle",
  "Switch",
  "_those",
  "rebuilt",
  "state_of",
  "_first_state",
  "Network",
  "_law_box",
  "_law_take",
  "_law_pick",
  "_law_setup",
  "_law_class",
  "_law_refused",
  "_law_put",
  "_law_spoilt"]
def lo : List (PySem.Str) := lo0 ++ (lo1)
theorem all_k02 {P : Program} {w : World} {K : PySem.W.Frag} {h : Heap} {mg : Str → Option Value} {f : Addr} (X : K.In h) (G : h.Ns mainGlobals mg) (hfa : mg ("law" : Str) = some (.ref f)) (c : SaysF fa fn K) :
    ∃ fd : FuncData, (∀ (s : Shared) (v : Value), BindsTo s fd ⟨[v], []⟩ [("script", v)]) ∧ ∀ base : Heap, K.In base → base.Ns mainGlobals mg → FnG P w K mg base (LT.CX P w) 10 f fd ["script"] (spLaw K cw) := by
  obtain ⟨fdNum, FNum⟩ := fun_at c 0 rfl
  have bNum := FNum.binds (ps := ["value", "least", "most"]) fun _ _ _ _ _ _ us hl => match us, hl with | [_, _, _], _ => rfl
  obtain ⟨fdTup, FTup⟩ := fun_at c 1 rfl
  have bTup := FTup.binds (ps := ["value", "least", "most"]) fun _ _ _ _ _ _ us hl => match us, hl with | [_, _, _], _ => rfl
  obtain ⟨fdHold, FHold⟩ := fun_at c 2 rfl
  have bHold := FHold.binds (ps := ["holders"]) fun _ _ _ _ _ _ us hl => match us, hl with | [_], _ => rfl
  obtain ⟨fdAcq, FAcq⟩ := fun_at c 3 rfl
  have bAcq := FAcq.binds (ps := ["acquirers"]) fun _ _ _ _ _ _ us hl => match us, hl with | [_], _ => rfl
  obtain ⟨fdIss, FIss⟩ := fun_at c 4 rfl
  have bIss := FIss.binds (ps := ["issuers"]) fun _ _ _ _ _ _ us hl => match us, hl with | [_], _ => rfl
  obtain ⟨fdIst, FIst⟩ := fun_at c 5 rfl
  have bIst := FIst.binds (ps := ["setup"]) fun _ _ _ _ _ _ us hl => match us, hl with | [_], _ => rfl
  obtain ⟨fdChs, FChs⟩ := fun_at c 6 rfl
  have bChs := FChs.binds (ps := ["setup"]) fun _ _ _ _ _ _ us hl => match us, hl with | [_], _ => rfl
  obtain ⟨fdAN, FAN⟩ := fun_at c 7 rfl
  have bAN := FAN.binds (ps := ["i"]) fun _ _ _ _ _ _ us hl => match us, hl with | [_], _ => rfl
  obtain ⟨fdIN, FIN⟩ := fun_at c 8 rfl
  have bIN := FIN.binds (ps := ["j"]) fun _ _ _ _ _ _ us hl => match us, hl with | [_], _ => rfl
  obtain ⟨fdIx, FIx⟩ := fun_at c 9 rfl
  have bIx := FIx.binds (ps := ["value", "many"]) fun _ _ _ _ _ _ us hl => match us, hl with | [_, _], _ => rfl
  obtain ⟨fdPr, FPr⟩ := fun_at c 10 rfl
  have bPr := FPr.binds (ps := ["value"]) fun _ _ _ _ _ _ us hl => match us, hl with | [_], _ => rfl
  obtain ⟨fdNd, FNd⟩ := fun_at c 11 rfl
  have bNd := FNd.binds (ps := ["setup", "node"]) fun _ _ _ _ _ _ us hl => match us, hl with | [_, _], _ => rfl
  obtain ⟨fdNds, FNds⟩ := fun_at c 12 rfl
  have bNds := FNds.binds (ps := ["setup"]) fun _ _ _ _ _ _ us hl => match us, hl with | [_], _ => rfl
  obtain ⟨fdKp, FKp⟩ := fun_at c 13 rfl
  have bKp := FKp.binds (ps := ["self", "entries"]) fun _ _ _ _ _ _ us hl => match us, hl with | [_, _], _ => rfl
  obtain ⟨fdHs, FHs⟩ := fun_at c 14 rfl
  have bHs := FHs.binds (ps := ["self", "entries", "share", "fee"]) fun _ _ _ _ _ _ us hl => match us, hl with | [_, _, _, _], _ => rfl
  obtain ⟨fdSw, FSw⟩ := fun_at c 15 rfl
  have bSw := FSw.binds (ps := ["self", "entries", "setup"]) fun _ _ _ _ _ _ us hl => match us, hl with | [_, _, _], _ => rfl
  obtain ⟨fdAI, FAI⟩ := fun_at c 16 rfl
  have bAI := FAI.binds (ps := ["self", "entries", "index", "many", "share", "fee"]) fun _ _ _ _ _ _ us hl => match us, hl with | [_, _, _, _, _, _], _ => rfl
  obtain ⟨fdII, FII⟩ := fun_at c 17 rfl
  have bII := FII.binds (ps := ["self", "entries", "balances", "share", "fee"]) fun _ _ _ _ _ _ us hl => match us, hl with | [_, _, _, _, _], _ => rfl
  obtain ⟨fdFi, FFi⟩ := fun_at c 18 rfl
  have bFi := FFi.binds (ps := ["setup", "node", "entries"]) fun _ _ _ _ _ _ us hl => match us, hl with | [_, _, _], _ => rfl
  obtain ⟨fdSo, FSo⟩ := fun_at c 19 rfl
  have bSo := FSo.binds (ps := ["setup", "node", "entries"]) fun _ _ _ _ _ _ us hl => match us, hl with | [_, _, _], _ => rfl
  obtain ⟨fdTo, FTo⟩ := fun_at c 20 rfl
  have bTo := FTo.binds (ps := ["self"]) fun _ _ _ _ _ _ us hl => match us, hl with | [_], _ => rfl
  obtain ⟨fdRe, FRe⟩ := fun_at c 21 rfl
  have bRe := FRe.binds (ps := ["setup", "node", "journal"]) fun _ _ _ _ _ _ us hl => match us, hl with | [_, _, _], _ => rfl
  obtain ⟨fdNI, FNI⟩ := fun_at c 22 rfl
  have bNI := FNI.binds (ps := ["self", "setup"]) fun _ _ _ _ _ _ us hl => match us, hl with | [_, _], _ => rfl
  obtain ⟨fdCk, FCk⟩ := fun_at c 23 rfl
  have bCk := FCk.binds (ps := ["self", "node"]) fun _ _ _ _ _ _ us hl => match us, hl with | [_, _], _ => rfl
  obtain ⟨fdJr, FJr⟩ := fun_at c 24 rfl
  have bJr := FJr.binds (ps := ["self", "node"]) fun _ _ _ _ _ _ us hl => match us, hl with | [_, _], _ => rfl
  obtain ⟨fdBo, FBo⟩ := fun_at c 25 rfl
  have bBo := FBo.binds (ps := ["script"]) fun _ _ _ _ _ _ us hl => match us, hl with | [_], _ => rfl
  obtain ⟨fdTa, FTa⟩ := fun_at c 26 rfl
  have bTa := FTa.binds (ps := ["box", "m"]) fun _ _ _ _ _ _ us hl => match us, hl with | [_, _], _ => rfl
  obtain ⟨fdPi, FPi⟩ := fun_at c 27 rfl
  have bPi := FPi.binds (ps := ["box", "menu"]) fun _ _ _ _ _ _ us hl => match us, hl with | [_, _], _ => rfl
  obtain ⟨fdSe, FSe⟩ := fun_at c 28 rfl
  have bSe := FSe.binds (ps := ["box"]) fun _ _ _ _ _ _ us hl => match us, hl with | [_], _ => rfl
  obtain ⟨fdPu, FPu⟩ := fun_at c 29 rfl
  have bPu := FPu.binds (ps := ["row", "at", "x"]) fun _ _ _ _ _ _ us hl => match us, hl with | [_, _, _], _ => rfl
  obtain ⟨fdSp, FSp⟩ := fun_at c 30 rfl
  have bSp := FSp.binds (ps := ["box", "setup"]) fun _ _ _ _ _ _ us hl => match us, hl with | [_, _], _ => rfl
  obtain ⟨fdCl, FCl⟩ := fun_at c 31 rfl
  have bCl := FCl.binds (ps := ["e"]) fun _ _ _ _ _ _ us hl => match us, hl with | [_], _ => rfl
  obtain ⟨fdRf, FRf⟩ := fun_at c 32 rfl
  have bRf := FRf.binds (ps := ["way", "setup", "journal"]) fun _ _ _ _ _ _ us hl => match us, hl with | [_, _, _], _ => rfl
  obtain ⟨fdLa, FLa⟩ := fun_at c 33 rfl
  have bLa := FLa.binds (ps := ["script"]) fun _ _ _ _ _ _ us hl => match us, hl with | [_], _ => rfl
  have e := hfa.symm.trans (He.glo_ok X G (fact_at c 0 rfl))
  cases e
  obtain ⟨_, _, kVL, docL, pmL, anL, cdvL, ctL, _, eL, _, _⟩ := FLa.ex
  refine ⟨fdLa, fun s v => by
    subst eL
    exact .of_eq rfl, fun base _ _ => ?_⟩
  have hcw : ga K "SWITCH" = cw := of_decide_eq_true (fact_at c 1 rfl)
  have mW : mg "SWITCH" = some (.ref cw) := by
    have q := (He.glo_ok X G (fact_at c 2 rfl))
    rw [hcw] at q
    exact q
  have T1 : St.Txt mg := ⟨(He.free_ok X G (fact_at c 3 rfl)), (He.free_ok X G (fact_at c 4 rfl)), (He.free_ok X G (fact_at c 5 rfl)), (He.free_ok X G (fact_at c 6 rfl)), (He.free_ok X G (fact_at c 7 rfl)), (He.free_ok X G (fact_at c 8 rfl)), (He.int_ok X G (fact_at c 9 rfl)), (He.int_ok X G (fact_at c 10 rfl)), (He.int_ok X G (fact_at c 11 rfl)), (He.int_ok X G (fact_at c 12 rfl)), (He.int_ok X G (fact_at c 13 rfl))⟩
  have T2 : Bx.Txt mg := ⟨(He.free_ok X G (fact_at c 7 rfl)), (He.free_ok X G (fact_at c 14 rfl)), (He.free_ok X G (fact_at c 5 rfl))⟩
  have ml : mg "list" = none := (He.free_ok X G (fact_at c 15 rfl))
  have mr : mg "range" = none := (He.free_ok X G (fact_at c 16 rfl))
  have X0 : Exo K mg (ga K "AcquitError") "AcquitError" (ga K "AcquitError") := exo_ok X G (fact_at c 17 rfl) (fact_at c 18 rfl)
  have X1 : Exo K mg (ga K "AcquitError") "BadSetup" (ga K "BadSetup") := exo_ok X G (fact_at c 19 rfl) (fact_at c 20 rfl)
  have X2 : Exo K mg (ga K "AcquitError") "NoSuch" (ga K "NoSuch") := exo_ok X G (fact_at c 21 rfl) (fact_at c 22 rfl)
  have X3 : Exo K mg (ga K "AcquitError") "BadStage" (ga K "BadStage") := exo_ok X G (fact_at c 23 rfl) (fact_at c 24 rfl)
  have X4 : Exo K mg (ga K "AcquitError") "Stopped" (ga K "Stopped") := exo_ok X G (fact_at c 25 rfl) (fact_at c 26 rfl)
  have XN : Pg.Exf K mg "NoSuch" (ga K "NoSuch") := ⟨X2.q, X2.m, X2.k, X2.s.sb, ty_ok (fact_at c 22 rfl)⟩
  have GNum : FnOk P w K mg base (LT.CX P w) _ _ _ _ _ := ok_num FNum T1
  have GTup := ok_tup (P := P) (w := w) (base := base) FTup T1
  have GHold := ok_hold FHold T1 GTup bTup (He.glo_ok X G (fact_at c 27 rfl)) FTup.kp GNum bNum (He.glo_ok X G (fact_at c 28 rfl)) FNum.kp
  have GAcq := ok_acq FAcq T1 GTup bTup (He.glo_ok X G (fact_at c 27 rfl)) FTup.kp GNum bNum (He.glo_ok X G (fact_at c 28 rfl)) FNum.kp
  have GIss := ok_iss FIss T1 GTup bTup (He.glo_ok X G (fact_at c 27 rfl)) FTup.kp GHold bHold (He.glo_ok X G (fact_at c 29 rfl)) FHold.kp
  have GIst := ok_isset FIst T1 GTup bTup (He.glo_ok X G (fact_at c 27 rfl)) FTup.kp GNum bNum (He.glo_ok X G (fact_at c 28 rfl)) FNum.kp GIss bIss (He.glo_ok X G (fact_at c 30 rfl)) FIss.kp GAcq bAcq (He.glo_ok X G (fact_at c 31 rfl)) FAcq.kp
  have GChs := ok_check FChs GIst bIst (He.glo_ok X G (fact_at c 32 rfl)) FIst.kp PySem.F.excBase_ValueError X1.q X1.m X1.k X1.s.sb (ty_ok (fact_at c 20 rfl))
  have GAN := ok_acqN (P := P) (w := w) (mg := mg) (base := base) FAN
  have GIN := ok_issN (P := P) (w := w) (mg := mg) (base := base) FIN
  have GIx := ok_idx FIx GNum bNum (He.glo_ok X G (fact_at c 28 rfl)) FNum.kp
  have GPr := ok_pair (P := P) (w := w) (base := base) FPr T1
  have GNd := ok_node FNd T1 GPr bPr (He.glo_ok X G (fact_at c 33 rfl)) FPr.kp GIx bIx (He.glo_ok X G (fact_at c 34 rfl)) FIx.kp mW
  have GNds := ok_nodes FNds T1 mr GAN bAN (He.glo_ok X G (fact_at c 35 rfl)) FAN.kp GIN bIN (He.glo_ok X G (fact_at c 36 rfl)) FIN.kp mW
  have GKp := ok_keep (P := P) (w := w) (mg := mg) (base := base) FKp
  have GHs := ok_house FHs GKp bKp (df_ok X G (fact_at c 37 rfl) (fact_at c 38 rfl))
  have GSw := ok_switch FSw GKp bKp (df_ok X G (fact_at c 37 rfl) (fact_at c 38 rfl)) GNds bNds (He.glo_ok X G (fact_at c 39 rfl)) FNds.kp mW
  have GAI := ok_acqI FAI GHs bHs (df_ok X G (fact_at c 40 rfl) (fact_at c 41 rfl))
  have GII := ok_issI FII T1 ml GHs bHs (df_ok X G (fact_at c 40 rfl) (fact_at c 41 rfl))
  have oS : Pg.Oc K (ga K "Switch") Pg.switchN := ⟨He.cls_ok (fact_at c 42 rfl), all_na (fact_at c 43 rfl)⟩
  have oN : Pg.Oc K (ga K "Network") Pg.netN := ⟨He.cls_ok (fact_at c 44 rfl), all_na (fact_at c 45 rfl)⟩
  have GFi := ok_first FFi GSw bSw (He.mkr_ok (fact_at c 46 rfl)) (He.glo_ok X G (fact_at c 47 rfl)) oS GAI bAI (He.mkr_ok (fact_at c 48 rfl)) (He.glo_ok X G (fact_at c 49 rfl)) ⟨He.cls_ok (fact_at c 50 rfl), all_na (fact_at c 51 rfl)⟩ GII bII (He.mkr_ok (fact_at c 52 rfl)) (He.glo_ok X G (fact_at c 53 rfl)) ⟨He.cls_ok (fact_at c 54 rfl), all_na (fact_at c 55 rfl)⟩ mW
  have GSo := ok_state FSo ml GFi bFi (He.glo_ok X G (fact_at c 56 rfl)) FFi.kp
  have GTo := ok_told (P := P) (w := w) (base := base) FTo (He.free_ok X G (fact_at c 57 rfl)) (He.free_ok X G (fact_at c 6 rfl))
  have GRe := ok_reb FRe ml GChs bChs (He.glo_ok X G (fact_at c 58 rfl)) FChs.kp GNd bNd (He.glo_ok X G (fact_at c 59 rfl)) FNd.kp GSo bSo (He.glo_ok X G (fact_at c 60 rfl)) FSo.kp GTo bTo oS (He.meth_ok (fact_at c 61 rfl)) XN
  have GNI := ok_netI FNI GChs bChs (He.glo_ok X G (fact_at c 58 rfl)) FChs.kp GNds bNds (He.glo_ok X G (fact_at c 39 rfl)) FNds.kp GSo bSo (He.glo_ok X G (fact_at c 60 rfl)) FSo.kp
  have GCk := ok_chk FCk GNd bNd (He.glo_ok X G (fact_at c 59 rfl)) FNd.kp XN
  have GJr := ok_jrn FJr ml GCk bCk (He.meth_ok (fact_at c 62 rfl)) oN
  have GBo := ok_box (P := P) (w := w) (base := base) FBo T2
  have GTa0 := ok_take (P := P) (w := w) (base := base) FTa T2
  have GPi0 := ok_pick (P := P) (w := w) (base := base) FPi T2 FTa bTa (He.glo_ok X G (fact_at c 63 rfl))
  have GTa : FnOk P w K mg base (LT.CX P w) 1 _ fdTa ["box", "m"] (spOf P w Bx.s3Take) := Bx.weak (Bx.toX GTa0) fun _ _ _ _ => Bx.up_take
  have GPi : FnOk P w K mg base (LT.CX P w) 2 _ fdPi ["box", "menu"] (spOf P w Bx.s3Pick) := Bx.weak (Bx.toX GPi0) fun _ _ _ _ => Bx.up_pick
  have GSe := ok_set FSe mr T1.tt GTa bTa (He.glo_ok X G (fact_at c 63 rfl)) FTa.kp GPi bPi (He.glo_ok X G (fact_at c 64 rfl)) FPi.kp
  have GPu := ok_put (P := P) (w := w) (mg := mg) (base := base) FPu
  have GSp := ok_spo FSp T1 GTa bTa (He.glo_ok X G (fact_at c 63 rfl)) FTa.kp GPi bPi (He.glo_ok X G (fact_at c 64 rfl)) FPi.kp GPu bPu (He.glo_ok X G (fact_at c 65 rfl)) FPu.kp
  have C : L3.Errs K (ga K "BadSetup") (ga K "NoSuch") (ga K "BadStage") (ga K "Stopped") := ⟨⟨X1.e, X2.e, X3.e, X4.e⟩, ⟨(of_decide_eq_true (fact_at c 66 rfl)), (of_decide_eq_true (fact_at c 67 rfl)), (of_decide_eq_true (fact_at c 68 rfl)), (of_decide_eq_true (fact_at c 69 rfl)), (of_decide_eq_true (fact_at c 70 rfl))⟩, ⟨(of_decide_eq_true (fact_at c 71 rfl)), (of_decide_eq_true (fact_at c 72 rfl)), (of_decide_eq_true (fact_at c 73 rfl)), (of_decide_eq_true (fact_at c 74 rfl)), (of_decide_eq_true (fact_at c 75 rfl))⟩, ⟨(of_decide_eq_true (fact_at c 76 rfl)), (of_decide_eq_true (fact_at c 77 rfl)), (of_decide_eq_true (fact_at c 78 rfl)), (of_decide_eq_true (fact_at c 79 rfl)), (of_decide_eq_true (fact_at c 80 rfl))⟩, ⟨(of_decide_eq_true (fact_at c 81 rfl)), (of_decide_eq_true (fact_at c 82 rfl)), (of_decide_eq_true (fact_at c 83 rfl)), (of_decide_eq_true (fact_at c 84 rfl)), (of_decide_eq_true (fact_at c 85 rfl))⟩⟩
  have GCl := ok_class (P := P) (w := w) (base := base) FCl C ⟨X1.s, X2.s, X3.s, X4.s⟩ (He.free_ok X G (fact_at c 3 rfl)) (He.free_ok X G (fact_at c 86 rfl)) (He.free_ok X G (fact_at c 87 rfl)) X1.m X2.m X3.m X4.m
  have GRf := ok_ref FRf GCl bCl (He.glo_ok X G (fact_at c 88 rfl)) FCl.kp GChs bChs (He.glo_ok X G (fact_at c 58 rfl)) FChs.kp GRe bRe (He.glo_ok X G (fact_at c 89 rfl)) FRe.kp GNI bNI (He.glo_ok X G (fact_at c 90 rfl)) (He.mkr_ok (fact_at c 91 rfl)) oN X0.m (He.exm_ok (fact_at c 92 rfl)) (He.exm_ok (fact_at c 93 rfl))
  exact ok_law FLa ⟨mr, (He.free_ok X G (fact_at c 94 rfl)), T1.isi, (He.free_ok X G (fact_at c 87 rfl))⟩ GBo bBo (He.glo_ok X G (fact_at c 95 rfl)) FBo.kp GSe bSe (He.glo_ok X G (fact_at c 96 rfl)) FSe.kp GNI bNI (He.glo_ok X G (fact_at c 90 rfl)) (He.mkr_ok (fact_at c 91 rfl)) oN GJr bJr (He.meth_ok (fact_at c 97 rfl)) GRf bRf (He.glo_ok X G (fact_at c 98 rfl)) FRf.kp GSp bSp (He.glo_ok X G (fact_at c 99 rfl)) FSp.kp X0 X1 X2 X3 X4
abbrev R : PySem.W.OpenRow := PySem.W.OpenLaw.row PySem.Challenge.rw_acquit_k02_what_is_a_setup
abbrev hk : PySem.W.Hook := hookS "switch" 11 1029 cw fa fn
def ob (s : PySem.W.SharedT) : He.AlD := obS "switch" 11 1029 cw fa fn s
theorem ob_eq (s : PySem.W.SharedT) : ob s = hk.obs s.abs := obS_eq "switch" 11 1029 cw fa fn s
end Lw
end
section
set_option Elab.async false
set_option linter.all false
set_option maxRecDepth 100000
set_option maxHeartbeats 0
namespace Lw
theorem run (w : PySem.World) : HandSHeadRun.RunEq R (PySem.W.view R.prog [62]) hk ob 8000 lo w := by
  intro os
  kernel_rfl
end Lw
open PySem PySem.W PySem.Calls PyProof.Rows in
theorem PySem.Challenge.cw_acquit_k02_what_is_a_setup_holds : PySem.Challenge.rw_acquit_k02_what_is_a_setup.Holds := by
  w_on; o_law
  refine HandSHeadRun.head_any (r := OpenLaw.row PySem.Challenge.rw_acquit_k02_what_is_a_setup) (q := view (OpenLaw.row PySem.Challenge.rw_acquit_k02_what_is_a_setup).prog [62]) (H := Lw.hk) (ob := Lw.ob) (M := 8000) (loose := Lw.lo) (d := HandSHeadRun.topDef (OpenLaw.row PySem.Challenge.rw_acquit_k02_what_is_a_setup).prog 62) (kwd := []) Lw.ob_eq
    (by kernel_rfl) (fun s => by kernel_rfl) Lw.run (by kernel_rfl) (by kernel_rfl) (by kernel_rfl) (by rfl) (by first | assumption | decide +kernel) (by decide +kernel) ⟨rfl, rfl, rfl, rfl, rfl, by decide +kernel⟩ ?hw ?hc
  case hw => w_witness2
  case hc =>
    refine Hk4.walk_sw (l := PySem.Challenge.rw_acquit_k02_what_is_a_setup) (k := 10) (x := "switch") (cw := Lw.cw) rfl (by kernel_rfl) ⟨rfl, by decide, by decide⟩ ?F
    intro w mg fa h Y G hmg0
    obtain ⟨K, KX, c, off, sw⟩ := Y
    have hmg : mg ("law" : PySem.Str) = some (.ref fa) := by
      have e : (HandSHeadRun.topDef (OpenLaw.row PySem.Challenge.rw_acquit_k02_what_is_a_setup).prog 62).name = ("law" : PySem.Str) := by kernel_rfl
      rw [← e]
      exact hmg0
    obtain ⟨fd, hb, hF⟩ := Lw.all_k02 (P := (PySem.Challenge.rw_acquit_k02_what_is_a_setup).prog) (w := w) KX G hmg c
    exact ⟨K, fd, Lw.spLaw K Lw.cw, KX, off, sw, hb, fun H a ns oa oc hl h1 h2 h3 => ⟨a, ns, oa, oc, rfl, h2, hl, h1, h3, fun _ => rfl⟩, hF⟩
end
