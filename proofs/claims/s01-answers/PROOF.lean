import PyProof.Rows.All
import Wide.All
import OpenK.AllK
import Wide.FinOn
import PyProof.EqAt
import PyProof.EqKinds
import PyProof.TupleCall
import Open.SpecLaws
import KE.OsGo
import HandS.ForSpec
import HandS.Comp
import HandS.Evl
import HandS.SortKw
import HandS.Lambda
import HandS.Conv
import HandS.Flow
import HandS.Iter
import HandS.EndTab
import KE.DataMinMax
import PySem.Challenge.RW_lightevents_s01_answers
set_option Elab.async false
set_option linter.all false
set_option autoImplicit false
set_option maxRecDepth 100000
set_option maxHeartbeats 4000000
/-! sorted(x, key=lambda ..): a rule of our own over the hand layer. -/
namespace Lk
open PySem PySem.Spec PyProof.Rows L2 LamX Srt SrtO

/-! ### keys: lists of whole numbers, by their first that differ -/
def lexL : List Int → List Int → Bool
  | [], [] => false
  | [], _ :: _ => true
  | _ :: _, [] => false
  | a :: as, b :: bs => if a = b then lexL as bs else decide (a < b)
theorem lexL_irr : ∀ x, lexL x x = false
  | [] => rfl
  | a :: as => by
    show (if a = a then lexL as as else decide (a < a)) = false
    rw [if_pos rfl]
    exact lexL_irr as
theorem lexL_asym : ∀ x y, lexL x y = true → lexL y x = false
  | [], [], h => rfl
  | [], _ :: _, _ => rfl
  | _ :: _, [], h => by cases h
  | a :: as, b :: bs, h => by
    have h' : (if a = b then lexL as bs else decide (a < b)) = true := h
    show (if b = a then lexL bs as else decide (b < a)) = false
    by_cases e : a = b
    · rw [if_pos e] at h'
      rw [if_pos e.symm]
      exact lexL_asym as bs h'
    · rw [if_neg e] at h'
      rw [if_neg (fun z => e z.symm)]
      have := of_decide_eq_true h'
      exact decide_eq_false (by omega)
theorem lexL_tr : ∀ x y z, lexL y x = false → lexL z y = false → lexL z x = false
  | [], [], [], _, _ => rfl
  | [], [], _ :: _, _, _ => rfl
  | [], _ :: _, [], _, h => by cases h
  | [], _ :: _, _ :: _, _, _ => rfl
  | _ :: _, [], _, h, _ => by cases h
  | _ :: _, _ :: _, [], _, h => by cases h
  | a :: as, b :: bs, c :: cs, h1, h2 => by
    have h1' : (if b = a then lexL bs as else decide (b < a)) = false := h1
    have h2' : (if c = b then lexL cs bs else decide (c < b)) = false := h2
    show (if c = a then lexL cs as else decide (c < a)) = false
    by_cases e1 : b = a
    · rw [if_pos e1] at h1'
      by_cases e2 : c = b
      · rw [if_pos e2] at h2'
        rw [if_pos (e2.trans e1)]
        exact lexL_tr as bs cs h1' h2'
      · rw [if_neg e2] at h2'
        rw [if_neg (fun z => e2 (z.trans e1.symm)), ← e1]
        exact h2'
    · rw [if_neg e1] at h1'
      have k1 := of_decide_eq_false h1'
      by_cases e2 : c = b
      · rw [if_neg (fun z => e1 (e2.symm.trans z)), e2]
        exact h1'
      · rw [if_neg e2] at h2'
        have k2 := of_decide_eq_false h2'
        rw [if_neg (by omega)]
        exact decide_eq_false (by omega)
theorem swo_lexL (k : Value → List Int) : Swo fun v u => lexL (k v) (k u) := ⟨fun x y => lexL_asym _ _, fun x y z => lexL_tr _ _ _⟩
/-- a key's numbers, as the heap has them -/
def kOf (h : Heap) : Value → List Int
  | .int n _ => [n]
  | .ref a => match h.get? a with
    | some o => match o.data with
      | .seq vs _ => vs.toList.map numOf
      | _ => []
    | none => []
  | _ => []
/-- a key in the heap: a tuple of d numbers, or one number -/
def KeyC (h : Heap) (tp : Bool) (d : Nat) (v : Value) (ns : List Int) : Prop :=
  ns.length = d ∧ 1 ≤ d ∧ if tp = true then ∃ a o us n, v = .ref a ∧ h.get? a = some o ∧ o.cls = .type "tuple" ∧ o.data = .seq (List.toArray us) n ∧ IntsAre us ns else ∃ n t, ns = [n] ∧ v = .int n t
theorem KeyC.kOf {h : Heap} {tp : Bool} {d : Nat} {v : Value} {ns : List Int} (x : KeyC h tp d v ns) : kOf h v = ns := by
  obtain ⟨_, _, x⟩ := x
  cases tp with
  | true =>
    rw [if_pos rfl] at x
    obtain ⟨a, o, us, n, rfl, ho, hc, hd, hi⟩ := x
    show (match h.get? a with
      | some o => match o.data with
        | .seq vs _ => vs.toList.map numOf
        | _ => []
      | none => []) = ns
    rw [ho]
    show (match o.data with
        | .seq vs _ => vs.toList.map numOf
        | _ => []) = ns
    rw [hd]
    exact hi.nums
  | false =>
    rw [if_neg (by decide)] at x
    obtain ⟨n, t, rfl, rfl⟩ := x
    rfl
section
variable {s : Shared} {prog : Program} {w : World} {A : Around} {E : Value → Shared → Prop}
theorem lex_kat : ∀ {us us' : List Value} {ns ns' : List Int} (i : Nat), IntsAre us ns → IntsAre us' ns' → ns.length = ns'.length →
    PySem.W.KatLex prog w A true false (fun r s' => s' = s ∧ r = lexL ns ns') (us.zip us') i s
  | _, _, _, _, i, .nil, .nil, _ => PySem.W.kat_nil ⟨rfl, rfl⟩
  | _, _, _, _, i, .nil, .cons _ _ _, h => by simp at h
  | _, _, _, _, i, .cons _ _ _, .nil, h => by simp at h
  | _, _, _, _, i, .cons (ns := ns) x t hr, .cons (ns := ns') y u hr', h => by
    have hl : ns.length = ns'.length := by simpa using h
    refine PySem.W.kat_cons (SeqAt.EqAt.int_int x t y u prog w _ _ ?_)
    refine PySem.W.kat_go (fun like => ?_) (fun unlike => ?_)
    · have ex : x = y := by simpa using like
      have e3 : lexL (x :: ns) (y :: ns') = lexL ns ns' := if_pos ex
      rw [e3]
      exact PySem.W.kat_yes (lex_kat (i + 1) hr hr' hl)
    · have ex : ¬ x = y := by simpa using unlike
      have e3 : lexL (x :: ns) (y :: ns') = decide (x < y) := if_neg ex
      rw [e3]
      refine PySem.W.kat_no ?_
      cases i with
      | zero => exact oneLt_int ⟨rfl, rfl⟩
      | succ i => exact PySem.W.kat_one _ _ (PyProof.Rows.lt_int ⟨rfl, rfl⟩)
theorem tup_cmp {keys : List Value} {d : Nat} (hk : ∀ v ∈ keys, ∃ ns, KeyC s.heap true d v ns) : Cmp prog w A s (tuples' true) (fun p => p.1 ∈ keys) (lt2 fun v u => lexL (kOf s.heap v) (kOf s.heap u)) := by
  intro p q hm hm'
  obtain ⟨ns, k1⟩ := hk _ hm
  obtain ⟨ms, k2⟩ := hk _ hm'
  show wpAny (model prog w) A (keyLt' (tuples' true) p.1 q.1) (fun r s' => s' = s ∧ r = lexL (kOf s.heap p.1) (kOf s.heap q.1)) (fun _ _ => False) s
  rw [k1.kOf, k2.kOf]
  obtain ⟨l1, _, x1⟩ := k1
  obtain ⟨l2, _, x2⟩ := k2
  rw [if_pos rfl] at x1 x2
  obtain ⟨a, o, us, n, e, at1, hc, row1, hi⟩ := x1
  obtain ⟨a', o', us', n', e', at2, hc', row2, hi'⟩ := x2
  rw [e, e']
  refine PySem.W.kat_lt at1 row1 at2 row2 ?_
  have e1 := hi.length
  have e2 := hi'.length
  have hz : decide (us.toArray.size < us'.toArray.size) = false := decide_eq_false (by rw [List.size_toArray, List.size_toArray]; omega)
  rw [hz]
  exact lex_kat 0 hi hi' (l1.trans l2.symm)
theorem tup_firsts {h : Heap} {d : Nat} : ∀ {vs : List Value}, (∀ v ∈ vs, ∃ ns, KeyC h true d v ns) → ∃ fs : List Value, PySem.W.KatTups h vs fs ∧ fs.length = vs.length ∧ ∀ f ∈ fs, ∃ x t, f = Value.int x t
  | [], _ => ⟨[], PySem.W.KatTups.nil, rfl, fun _ z => by cases z⟩
  | v :: vs, hp => by
    obtain ⟨fs, h1, h2, h3⟩ := tup_firsts (vs := vs) fun v' hm => hp v' (List.mem_cons_of_mem _ hm)
    obtain ⟨ns, l1, l2, x⟩ := hp v (List.mem_cons_self ..)
    rw [if_pos rfl] at x
    obtain ⟨a, o, us, n, e, ho, hc, hd, hi⟩ := x
    subst e
    cases hi with
    | nil =>
      exfalso
      simp only [List.length_nil] at l1
      omega
    | cons y t r =>
      refine ⟨.int y t :: fs, PySem.W.KatTups.cons ho hc hd rfl h1, by rw [List.length_cons, List.length_cons, h2], fun f hm => ?_⟩
      rcases List.mem_cons.mp hm with rfl | hm
      · exact ⟨y, t, rfl⟩
      · exact h3 f hm
/-- keys can be compared -/
def Ready (prog : Program) (w : World) (A : Around) (s : Shared) (keys : List Value) : Prop :=
  2 ≤ keys.length → ∃ κ, (∀ (Q : SortKind → Shared → Prop) (E : Value → Shared → Prop), Q κ s → wpAny (model prog w) A (keyKind' keys.toArray) Q E s) ∧ Cmp prog w A s κ (fun p => p.1 ∈ keys) (lt2 fun v u => lexL (kOf s.heap v) (kOf s.heap u))
theorem ints_of_keys {h : Heap} {d : Nat} : ∀ {vs : List Value}, (∀ v ∈ vs, ∃ ns, KeyC h false d v ns) → ∃ ns, IntsAre vs ns
  | [], _ => ⟨[], .nil⟩
  | v :: vs, hp => by
    obtain ⟨ns, h1⟩ := ints_of_keys (vs := vs) fun v' hm => hp v' (List.mem_cons_of_mem _ hm)
    obtain ⟨ms, _, _, x⟩ := hp v (List.mem_cons_self ..)
    rw [if_neg (by decide)] at x
    obtain ⟨n, t, _, rfl⟩ := x
    exact ⟨n :: ns, .cons n t h1⟩
theorem ready_of {keys : List Value} {tp : Bool} {d : Nat} (hk : ∀ v ∈ keys, ∃ ns, KeyC s.heap tp d v ns) : Ready prog w A s keys := by
  intro h2
  cases tp with
  | true =>
    obtain ⟨fs, h1, h3, h4⟩ := tup_firsts hk
    refine ⟨tuples' true, fun Q E hq => ?_, tup_cmp hk⟩
    have unlike : (Value.type "int" != Value.type "tuple") = true := by decide +kernel
    refine PySem.W.kat_kind (T := .type "int") h1 (by omega) (fun f first => ?_) (by rfl) (by rw [unlike]; exact hq)
    obtain ⟨x, t, rfl⟩ := h4 f first
    exact PySem.W.Looks.now
  | false =>
    obtain ⟨ns, hI⟩ := ints_of_keys hk
    obtain ⟨κ, a, b⟩ := ints_sortable (prog := prog) (w := w) (A := A) (s := s) (a := 0) hI h2 s.heap (fun _ _ _ e => e)
    refine ⟨κ, a, fun p q hm hm' => ?_⟩
    have e : lt2 ltIv p q = lt2 (fun v u => lexL (kOf s.heap v) (kOf s.heap u)) p q := by
      obtain ⟨x, t, ex⟩ := ints_mem hI _ hm
      obtain ⟨y, u, ey⟩ := ints_mem hI _ hm'
      show ltIv p.1 q.1 = lexL (kOf s.heap p.1) (kOf s.heap q.1)
      rw [ex, ey]
      show decide (x < y) = (if x = y then false else decide (x < y))
      by_cases e : x = y
      · rw [if_pos e, e]
        exact decide_eq_false (Int.lt_irrefl _)
      · rw [if_neg e]
    have := b p q hm hm'
    rw [e] at this
    exact this
end
end Lk

set_option Elab.async false
set_option linter.all false
set_option autoImplicit false
set_option maxRecDepth 100000
set_option maxHeartbeats 4000000
namespace Lk
open PySem PySem.Spec PyProof.Rows L2 LamX Srt SrtO
/-- what sorting by keys has put out -/
def OutK (h : Heap) (keys vs out : List Value) : Prop := ∃ ps : List (Value × Value), ps.Perm (keys.zip vs) ∧ out = ps.map Prod.snd ∧ ps.Pairwise fun p q => lexL (kOf h q.1) (kOf h p.1) = false
theorem zip_arr (keys vs : List Value) : (keys.toArray.zip vs.toArray).toList = keys.zip vs := by
  have h := ksk_zip keys.toArray vs
  rw [h]
section
variable {prog : Program} {w : World} {A : Around} {E : Value → Shared → Prop} {s : Shared} {a ks : Addr} {keys vs : List Value} {e e1 : Nat} {P : PySem.Fin → Shared → Prop}
theorem key_tail {st : SortSt} (hk : s.heap.get? ks = some (seqObj "list" keys.toArray e)) (ho : s.heap.get? a = some (seqObj "list" #[] e1)) (hka : ks ≠ a) (hlen : keys.length = vs.length) (hZ : vs.length ≤ sizeLine)
    (hp : Stb (lt2 fun v u => lexL (kOf s.heap v) (kOf s.heap u)) (arrOf st).toList (keys.zip vs)) (hs : Srtd (lt2 fun v u => lexL (kOf s.heap v) (kOf s.heap u)) (arrOf st).toList) (hfl : failedOf st = none)
    (h : ∀ (h' : Heap) (out : List Value) (c2 : Nat), OutK s.heap keys vs out → (∀ b o, b ≠ ks → b ≠ a → s.heap.get? b = some o → h'.get? b = some o) → (∃ o, h'.get? ks = some o) → h'.get? a = some (seqObj "list" out.toArray c2) → P (.done (.ret .none)) { s with heap := h' }) :
    wpAny (model prog w) A (ksk_tail a false e1 (.ref ks) st) P E s := by
  have hsz2 : (arrOf st).size = vs.length := by
    have := hp.len
    rw [Array.length_toList, List.length_zip, hlen, Nat.min_self] at this
    exact this
  have sb1 := Heap.SameBut.update s.heap ks (Obj.mapSeq fun _ => (#[] : Array Value))
  have em1 : (s.heap.update ks (Obj.mapSeq fun _ => (#[] : Array Value))).get? a = some (seqObj "list" #[] e1) := (sb1.2 a hka.symm).trans ho
  have sb2 := Heap.SameBut.update (s.heap.update ks (Obj.mapSeq fun _ => (#[] : Array Value))) a (Obj.mapSeq fun _ => (arrOf st).map (·.2))
  obtain ⟨c1, hc1⟩ : ∃ c1, (s.heap.update ks (Obj.mapSeq fun _ => (#[] : Array Value))).get? ks = some (seqObj "list" #[] c1) := ⟨_, get?_update_seq hk fun _ => #[]⟩
  obtain ⟨c2, hc2⟩ : ∃ c2, ((s.heap.update ks (Obj.mapSeq fun _ => (#[] : Array Value))).update a (Obj.mapSeq fun _ => (arrOf st).map (·.2))).get? a = some (seqObj "list" ((arrOf st).map (·.2)) c2) :=
    ⟨_, get?_update_seq em1 fun _ => (arrOf st).map (·.2)⟩
  unfold ksk_tail
  try dsimp only
  refine wpAny_bind (listUpdate_at hk rfl ?_ (by rw [List.size_toArray, hlen]; exact hZ) (Nat.zero_le _))
  refine wpAny_bind (wpAny_letGo ?_)
  refine wpAny_bind (seqEpoch_at em1 rfl ?_)
  refine wpAny_bind (listUpdate_at em1 rfl ?_ (Nat.zero_le _) (by simp only [Bool.false_eq_true, if_false, Array.size_map]; omega))
  rw [hfl]
  simp only [bne_self_eq_false, Bool.false_eq_true, if_false]
  refine wpAny_pure (h _ ((arrOf st).map (·.2)).toList c2 ⟨(arrOf st).toList, hp.perm, ?_, hs⟩ (fun b o h1 h2 e => (sb2.2 b h2).trans ((sb1.2 b h1).trans e)) ⟨_, (sb2.2 ks hka).trans hc1⟩ ?_)
  · rw [Array.toList_map]
  · rw [Array.toArray_toList]
    exact hc2
theorem key_end (hk : s.heap.get? ks = some (seqObj "list" keys.toArray e)) (ho : s.heap.get? a = some (seqObj "list" #[] e1)) (hka : ks ≠ a) (hlen : keys.length = vs.length) (hZ : vs.length ≤ sizeLine) (R : Ready prog w A s keys)
    (h : ∀ (h' : Heap) (out : List Value) (c2 : Nat), OutK s.heap keys vs out → (∀ b o, b ≠ ks → b ≠ a → s.heap.get? b = some o → h'.get? b = some o) → (∃ o, h'.get? ks = some o) → h'.get? a = some (seqObj "list" out.toArray c2) → P (.done (.ret .none)) { s with heap := h' }) :
    wpAny (model prog w) A (ksk_end a false vs.toArray e1 (.ref ks) keys.toArray) P E s := by
  have O := swo2 (swo_lexL (kOf s.heap))
  unfold ksk_end
  try dsimp only
  simp only [Bool.false_eq_true, if_false]
  by_cases h2 : vs.toArray.size < 2
  · rw [if_pos h2, if_pos h2]
    refine wpAny_bind (wpAny_pure ?_)
    rw [StateT.run_pure]
    refine wpAny_bind (wpAny_pure ?_)
    try dsimp only
    rw [List.size_toArray] at h2
    refine key_tail (st := SortSt.mk' general' (keys.toArray.zip vs.toArray) #[] 7 none) hk ho hka hlen hZ ?_ ?_ rfl h
    · show Stb _ (keys.toArray.zip vs.toArray).toList _
      rw [zip_arr]
      exact Stb.refl _
    · show Srtd _ (keys.toArray.zip vs.toArray).toList
      rw [zip_arr]
      have hl : (keys.zip vs).length < 2 := by
        rw [List.length_zip]
        omega
      match keys.zip vs, hl with
      | [], _ => exact List.Pairwise.nil
      | [p], _ => exact List.pairwise_singleton _ _
  · rw [if_neg h2, if_neg h2]
    rw [List.size_toArray] at h2
    obtain ⟨κ, kindly, hT⟩ := R (by omega)
    refine wpAny_bind (kindly _ _ ?_)
    have hall : AllL (fun p : Keyed => p.1 ∈ keys) (keys.toArray.zip vs.toArray).toList := fun p hm => by
      rw [zip_arr] at hm
      obtain ⟨x, y⟩ := p
      exact (List.of_mem_zip hm).1
    refine wpAny_bind (wpAny_mono (wpS_sortO (st0 := SortSt.mk' κ (keys.toArray.zip vs.toArray) #[] 7 none)
      (Q := fun _ st' => Srtd (lt2 fun v u => lexL (kOf s.heap v) (kOf s.heap u)) (arrOf st').toList ∧ Stb (lt2 fun v u => lexL (kOf s.heap v) (kOf s.heap u)) (arrOf st').toList (keys.zip vs) ∧ failedOf st' = none) O hT rfl hall rfl rfl fun st' a1 a2 a3 => ⟨a1, (by
        have a2' : Stb _ (arrOf st').toList (keys.toArray.zip vs.toArray).toList := a2
        rw [zip_arr] at a2'
        exact a2'), a3⟩) ?_ fun _ _ e => e)
    rintro ⟨⟨⟩, st'⟩ s' ⟨rfl, sorted_, stable, hf⟩
    try dsimp only
    exact key_tail hk ho hka hlen hZ stable sorted_ hf h
end

/-! ### the keys, one after another -/
/-- a key that a lambda has given -/
def KeyIs (tp : Bool) (d : Nat) (H : Hp) (v : V) (ns : List Int) : Prop := ns.length = d ∧ 1 ≤ d ∧ if tp = true then ∃ p, v = .ref p ∧ H p = some (.tup (ns.map V.int)) else ∃ n, ns = [n] ∧ v = .int n
abbrev Ex (H H' : Hp) : Prop := Evl.Ex H H'
theorem KeyIs.ex {tp : Bool} {d : Nat} {H H' : Hp} {v : V} {ns : List Int} (x : Ex H H') (h : KeyIs tp d H v ns) : KeyIs tp d H' v ns := by
  obtain ⟨a, b, c⟩ := h
  refine ⟨a, b, ?_⟩
  cases tp with
  | true =>
    rw [if_pos rfl] at c ⊢
    obtain ⟨p, e, hp⟩ := c
    exact ⟨p, e, x _ _ hp⟩
  | false => exact c
theorem KeyIs.heap {tp : Bool} {d : Nat} {P : Program} {w : World} {H : Hp} {h : Heap} {v : V} {u : Value} {ns : List Int} (k : KeyIs tp d H v ns) (hok : HOk P w H h) (r : RelV v u) : KeyC h tp d u ns := by
  obtain ⟨a, b, c⟩ := k
  refine ⟨a, b, ?_⟩
  cases tp with
  | true =>
    rw [if_pos rfl] at c ⊢
    obtain ⟨p, rfl, hp⟩ := c
    obtain rfl : u = Value.ref p := r
    obtain ⟨_, its, rv, o, ho, hc, n, hd⟩ := hok p _ hp
    exact ⟨p, o, its, n, rfl, ho, hc, hd, rv.ints⟩
  | false =>
    rw [if_neg (by decide)] at c ⊢
    obtain ⟨n, e, rfl⟩ := c
    obtain ⟨t, rfl⟩ := r
    exact ⟨n, t, e, rfl⟩
section
variable {X : Cx} {σ : L2.St} {A : Around} {E : Value → Shared → Prop}
theorem Inv.repin {pins : List (Addr × Obj)} {H : Hp} {s : Shared} {h' : Heap} {ks : Addr} {o o' : Obj} (I : Inv X ((ks, o) :: pins) σ H s) (hn : X.s_0.heap.objs.size ≤ ks) (hd : ∀ p ∈ X.pn ++ pins, p.1 ≠ ks)
    (k : ∀ b u, b ≠ ks → s.heap.get? b = some u → h'.get? b = some u) (ho : h'.get? ks = some o') (hdat : ∀ v, o'.data ≠ .cell v) (hc0 : ∀ v, o.data ≠ .cell v) : Inv X ((ks, o') :: pins) σ H { s with heap := h' } := by
  have pk := I.pin (ks, o) (List.mem_append_right _ (List.mem_cons_self ..))
  have I0 : Inv X pins σ H s := I.pins_of fun p hp => I.pin p (List.mem_append_right _ (List.mem_cons_of_mem _ hp))
  have I1 : Inv X pins σ H { s with heap := h' } := by
    have hL : ks ≠ X.env.locals := pk.2.2.1
    refine I0.step (g' := s.gens) (d' := s.drawn) (t' := s.toks) (ch := [ks]) (fun b hb => ?_) (fun b u _ _ hb e _ => k b u (fun z => hb (by rw [z]; exact List.mem_singleton.mpr rfl)) e) (fun b u _ _ hb e _ => ⟨u.slots, k b u (fun z => hb (by rw [z]; exact List.mem_singleton.mpr rfl)) e⟩)
      (fun b u _ _ e => e) (fun b u hb e => ⟨u, k b u (fun z => hb (by rw [z]; exact List.mem_singleton.mpr rfl)) e⟩) (fun _ _ e => e) (fun _ _ _ e => e) (fun b ps e => ⟨#[], by rw [Array.append_empty]; exact e⟩) (fun m hm => ?_) (fun b u e => ?_) I0.bare
    · rw [List.mem_singleton.mp hb]
      refine ⟨.inr hn, hL, fun x c e z => ?_, hd⟩
      obtain ⟨v, oc, h1, h2⟩ := I.cell x c e
      rw [z, pk.1] at h1
      cases h1
      exact hc0 v h2
    · obtain ⟨om, es, ep, e, r⟩ := hm
      exact ⟨om, es, ep, k _ _ (fun z => hL z.symm) e, r⟩
    · have nb : b ≠ ks := fun z => by
        rw [z, pk.2.1] at e
        cases e
      refine (I0.hok b u e).stay (fun c v hc q => k c v ?_ q) (fun c q => q) fun c xs q => q
      intro z
      rcases hc with hc | hc
      · exact nb (hc.symm.trans z)
      · rw [z, pk.2.1] at hc
        cases hc
  refine I1.pins_of fun p hp => ?_
  rcases List.mem_cons.mp hp with rfl | hp
  · exact ⟨ho, pk.2.1, pk.2.2.1, pk.2.2.2.1, hdat⟩
  · exact I1.pin p (List.mem_append_right _ hp)
theorem key_rest {pins : List (Addr × Obj)} {H : Hp} {s : Shared} {f a ks : Addr} {vs : List Value} {xs : List V} {e1 : Nat} {tp : Bool} {d : Nat} {ky : Nat → List Int} {P : PySem.Fin → Shared → Prop} (r : Vals xs vs) (hZ : vs.length ≤ sizeLine)
    (turn : ∀ (i : Nat) (x : V) (v : Value) (pins' : List (Addr × Obj)) (H' : Hp) (s' : Shared), xs[i]? = some x → RelV x v → (∀ p ∈ pins, p ∈ pins') → Ex H H' → Inv X pins' σ H' s' →
      wpAny (model X.prog X.w) A (call (.ref f) [v]) (EP X pins' σ fun y H'' => Ex H' H'' ∧ KeyIs tp d H'' y (ky i)) (fun _ _ => False) s')
    (hI : Inv X ((ks, seqObj "list" #[] 0) :: (a, seqObj "list" #[] e1) :: pins) σ H s) (hn : X.s_0.heap.objs.size ≤ ks) (hd : ∀ p ∈ X.pn ++ (a, seqObj "list" #[] e1) :: pins, p.1 ≠ ks)
    (done : ∀ (s' : Shared) (H' : Hp) (keys : List Value) (e : Nat), Inv X ((ks, seqObj "list" keys.toArray e) :: (a, seqObj "list" #[] e1) :: pins) σ H' s' → Ex H H' → keys.length = vs.length → (∀ i u, keys[i]? = some u → KeyC s'.heap tp d u (ky i)) →
      wpAny (model X.prog X.w) A (ksk_end a false vs.toArray e1 (.ref ks) keys.toArray) P E s') :
    wpAny (model X.prog X.w) A (ksk_rest a (.ref f) false vs.toArray e1 (.ref ks)) P E s := by
  have hZ2 := hZ
  rw [sizeLine_eq] at hZ2
  unfold ksk_rest
  refine wpAny_bind (wpAny_rule ?_)
  rw [List.forIn_toArray]
  refine wpAny_bind (ksk_fold (fun i s' => ∃ (H' : Hp) (keys : List Value) (e : Nat) (ys : List V), Inv X ((ks, seqObj "list" keys.toArray e) :: (a, seqObj "list" #[] e1) :: pins) σ H' s' ∧ Ex H H' ∧ keys.length = i ∧ Vals ys keys ∧ ∀ j y, ys[j]? = some y → KeyIs tp d H' y (ky j)) vs 0 s
    ⟨H, [], 0, [], hI, Evl.Ex.refl H, rfl, .nil, fun j y h => by simp at h⟩ ?step ?done)
  case step =>
    rintro j x s' hx ⟨H', keys, e, ys, I', x', hl, hv, hk⟩
    simp only [Nat.zero_add] at hl ⊢
    have hj : j < vs.length := let ⟨lt, _⟩ := List.getElem?_eq_some_iff.mp hx; lt
    obtain ⟨xv, hxv, rx⟩ : ∃ xv, xs[j]? = some xv ∧ RelV xv x := by
      have hjx : j < xs.length := by rw [r.length]; exact hj
      obtain ⟨u, hu, ru⟩ := r.get (List.getElem?_eq_getElem hjx)
      rw [hx] at hu
      cases hu
      exact ⟨_, List.getElem?_eq_getElem hjx, ru⟩
    refine wpAny_bind (wpAny_attempt (wpAny_mono (turn j xv x _ H' s' hxv rx (fun p hp => List.mem_cons_of_mem _ (List.mem_cons_of_mem _ hp)) x' I') (fun v s'' he => ?_) fun _ _ hF => hF.elim))
    obtain ⟨y, H'', I'', ry, x'', ky''⟩ := he
    try dsimp only
    have pk := I''.pin (ks, seqObj "list" keys.toArray e) (List.mem_append_right _ (List.mem_cons_self ..))
    obtain ⟨c2, hc2⟩ : ∃ c2, (s''.heap.update ks (Obj.mapSeq (·.push v))).get? ks = some (seqObj "list" (keys.toArray.push v) c2) := ⟨_, get?_update_seq pk.1 (·.push v)⟩
    have ea : keys.toArray.push v = (keys ++ [v]).toArray := by simp
    rw [ea] at hc2
    refine wpAny_bind (listUpdate_at pk.1 rfl ?_ (by rw [List.size_toArray, sizeLine_eq]; omega) (Nat.le_trans (Nat.le_of_eq (Array.size_push ..)) (by rw [List.size_toArray, sizeLine_eq]; omega)))
    refine wpAny_pure ⟨rfl, H'', keys ++ [v], c2, ys ++ [y], Inv.repin I'' hn hd (fun b u hb q => ((Heap.SameBut.update s''.heap ks (Obj.mapSeq (·.push v))).2 b hb).trans q) hc2 (fun v z => by cases z) (fun v z => by cases z), x'.trans x'', by rw [List.length_append]; show keys.length + 1 = j + 1; omega, hv.append (.cons ry .nil), fun i z hz => ?_⟩
    have hyl : ys.length = j := by rw [hv.length]; exact hl
    by_cases hi : i < ys.length
    · rw [List.getElem?_append_left hi] at hz
      exact (hk i z hz).ex x''
    · rw [List.getElem?_append_right (by omega)] at hz
      have hi0 : i - ys.length = 0 := by
        have := (List.getElem?_eq_some_iff.mp hz).1
        simp only [List.length_singleton] at this
        omega
      rw [hi0] at hz
      have ez : y = z := Option.some.inj hz
      have ei : i = j := by omega
      rw [← ez, ei]
      exact ky''
  case done =>
    rintro s' ⟨H', keys, e, ys, I', x', hl, hv, hk⟩
    have pk := I'.pin (ks, seqObj "list" keys.toArray e) (List.mem_append_right _ (List.mem_cons_self ..))
    try dsimp only
    refine wpAny_bind (listItems_at pk.1 rfl ?_)
    refine done s' H' keys e I' x' (by omega) fun i u hu => ?_
    have hi : i < ys.length := by
      rw [hv.length]
      exact (List.getElem?_eq_some_iff.mp hu).1
    obtain ⟨u', hu', ru⟩ := hv.get (List.getElem?_eq_getElem hi)
    rw [hu] at hu'
    cases hu'
    exact (hk i _ (List.getElem?_eq_getElem hi)).heap I'.hok ru
end
end Lk

set_option Elab.async false
set_option linter.all false
set_option autoImplicit false
set_option maxRecDepth 100000
set_option maxHeartbeats 4000000
namespace Lk
open PySem PySem.Spec PyProof.Rows L2 LamX Srt SrtO

/-! ### orders by places -/
theorem perm_pre {α β : Type} (g : α → β) : ∀ {l m' : List β}, l.Perm m' → ∀ m : List α, m' = m.map g → ∃ k : List α, k.Perm m ∧ l = k.map g := by
  intro l m' h
  induction h with
  | nil =>
    intro m e
    exact ⟨m, List.Perm.refl _, e⟩
  | cons x _ ih =>
    intro m e
    cases m with
    | nil => cases e
    | cons y r =>
      rw [List.map_cons] at e
      injection e with e1 e2
      obtain ⟨k, hk, el⟩ := ih r e2
      exact ⟨y :: k, hk.cons y, by rw [List.map_cons, el, e1]⟩
  | swap x y l =>
    intro m e
    match m, e with
    | a :: b :: r, e =>
      rw [List.map_cons, List.map_cons] at e
      injection e with e1 e2
      injection e2 with e2 e3
      exact ⟨b :: a :: r, List.Perm.swap _ _ _, by rw [List.map_cons, List.map_cons, e1, e2, e3]⟩
  | trans _ _ ih1 ih2 =>
    intro m e
    obtain ⟨k2, h2, e2⟩ := ih2 m e
    obtain ⟨k1, h1, e1⟩ := ih1 k2 e2
    exact ⟨k1, h1.trans h2, e1⟩
theorem zip_range {α β : Type} (da : α) (db : β) : ∀ {l : List α} {m : List β}, l.length = m.length → l.zip m = (List.range l.length).map fun i => (l.getD i da, m.getD i db)
  | [], [], _ => rfl
  | [], _ :: _, h => by simp at h
  | _ :: _, [], h => by simp at h
  | x :: l, y :: m, h => by
    have h' : l.length = m.length := by simpa using h
    rw [List.zip_cons_cons, List.length_cons, List.range_succ_eq_map, List.map_cons, List.map_map, zip_range da db h']
    rfl
/-- an order of the places 0 .. n - 1 by their keys -/
structure Ord (ky : Nat → List Int) (n : Nat) (k : List Nat) : Prop where
  perm : k.Perm (List.range n)
  srt : k.Pairwise fun i j => lexL (ky j) (ky i) = false
theorem Ord.lt {ky : Nat → List Int} {n : Nat} {k : List Nat} (o : Ord ky n k) {i : Nat} (h : i ∈ k) : i < n := List.mem_range.mp (o.perm.mem_iff.mp h)
theorem vals_pick {xs : List V} {vs : List Value} (r : Vals xs vs) : ∀ {k : List Nat}, (∀ i ∈ k, i < xs.length) → Vals (k.map fun i => xs.getD i .non) (k.map fun i => vs.getD i .none)
  | [], _ => .nil
  | i :: k, h => by
    have hi := h i (List.mem_cons_self ..)
    obtain ⟨u, hu, ru⟩ := r.get (List.getElem?_eq_getElem hi)
    refine .cons ?_ (vals_pick r fun j hj => h j (List.mem_cons_of_mem _ hj))
    show L2.RelV (xs.getD i V.non) (vs.getD i Value.none)
    rw [List.getD_eq_getElem?_getD, List.getD_eq_getElem?_getD, List.getElem?_eq_getElem hi, hu]
    exact ru
theorem outK_ord {h : Heap} {keys vs out : List Value} {xs : List V} {tp : Bool} {d : Nat} {ky : Nat → List Int} (o : OutK h keys vs out) (hl : keys.length = vs.length) (r : Vals xs vs) (hk : ∀ i u, keys[i]? = some u → KeyC h tp d u (ky i)) :
    ∃ k, Ord ky xs.length k ∧ Vals (k.map fun i => xs.getD i .non) out := by
  obtain ⟨ps, hp, e, hs⟩ := o
  have hz := zip_range (da := Value.none) (db := Value.none) hl
  obtain ⟨k, hk1, e2⟩ := perm_pre _ hp _ hz
  have hxl := r.length
  have hlt : ∀ i ∈ k, i < xs.length := fun i hi => by
    have := List.mem_range.mp (hk1.mem_iff.mp hi)
    omega
  refine ⟨k, ⟨by rw [hxl, ← hl]; exact hk1, ?_⟩, ?_⟩
  · rw [e2, List.pairwise_map] at hs
    refine hs.imp_of_mem fun {i j} hi hj hr => ?_
    have key : ∀ i ∈ k, kOf h (keys.getD i .none) = ky i := fun i hi => by
      have hi' : i < keys.length := by
        have := hlt i hi
        omega
      have hg : keys[i]? = some (keys.getD i .none) := by
        rw [List.getD_eq_getElem?_getD, List.getElem?_eq_getElem hi']
        rfl
      exact (hk i _ hg).kOf
    have hr' : lexL (kOf h (keys.getD j .none)) (kOf h (keys.getD i .none)) = false := hr
    rw [key i hi, key j hj] at hr'
    exact hr'
  · have e3 : out = k.map fun i => vs.getD i .none := by
      rw [e, e2, List.map_map]
      rfl
    rw [e3]
    exact vals_pick r hlt

/-! ### sorted(x, key=f) -/
/-- what is sorted: a list, or a range from 0 -/
def Src (K : PySem.W.Frag) (H : Hp) (l : Addr) (xs : List V) : Prop := SqL K H l xs ∨ ∃ n : Nat, n ≤ 1000 ∧ H l = some (.rng 0 n) ∧ xs = rgV 0 n
section
variable {X : Cx} {σ : L2.St} {E : Value → Shared → Prop}
/-- what is handed in is collected: nothing that stood is changed -/
theorem collect_src {pins : List (Addr × Obj)} {H : Hp} {s : Shared} {l : Addr} {xs : List V} {A : Around} {Q : List Value → Shared → Prop} (I : Inv X pins σ H s) (hA : A.handled = none) (S : Src X.K H l xs) (hl : xs.length ≤ 1000)
    (h : ∀ (vs : List Value) (h' : Heap) (tk : Nat), Vals xs vs → (∀ b o, s.heap.get? b = some o → h'.get? b = some o) → Q vs { s with heap := h', toks := tk }) : wpAny (model X.prog X.w) A (collect (.ref l)) Q E s := by
  rcases S with S | ⟨n, hn, hr, rfl⟩
  · obtain ⟨its, rv, hL, hz⟩ := I.list S
    refine collect_list hL.isList (h its _ _ rv fun b o e => ?_) (by rw [← rv.length]; exact hz)
    have hlt : b < s.heap.objs.size := Heap.lt_size e
    rw [Heap.get?_update_ne _ _ _ _ (Nat.ne_of_lt hlt)]
    exact Heap.get?_push_of_some _ e
  · obtain ⟨t, u, v, e⟩ := I.hok l _ hr
    refine L2.collect_range (n := n) hA e (small_one (by omega) (by omega) (by omega) (by omega)) (by rw [rangeSize_nat]; omega) (by omega) fun h' tk acc hk hi => h acc.toList h' tk (vals_rg ?_) hk
    have en : ((n : Int) - 0).toNat = n := by omega
    rw [en]
    exact hi
theorem sort_call {pins : List (Addr × Obj)} {H : Hp} {s : Shared} {l f : Addr} {xs : List V} {tp : Bool} {d : Nat} {ky : Nat → List Int} {Q : VK} (I : Inv X pins σ H s) (hA : X.A.handled = none) (S : Src X.K H l xs) (hl : xs.length ≤ 1000)
    (turn : ∀ (i : Nat) (x : V) (v : Value) (pins' : List (Addr × Obj)) (H' : Hp) (s' : Shared), xs[i]? = some x → RelV x v → (∀ p ∈ pins, p ∈ pins') → Ex H H' → Inv X pins' σ H' s' →
      wpAny (model X.prog X.w) X.A.in1.in1 (call (.ref f) [v]) (EP X pins' σ fun y H'' => Ex H' H'' ∧ KeyIs tp d H'' y (ky i)) (fun _ _ => False) s')
    (h : ∀ (D : Addr) (H' : Hp) (k : List Nat), Ord ky xs.length k → Ex H H' → H D = none → H' D = some (.lst (k.map fun i => xs.getD i .non)) → Q (.ref D) H') :
    wpAny (model X.prog X.w) X.A (call (.builtin "sorted") [.ref l] [(Str.ofString "key", .ref f)]) (EP X pins σ Q) E s := by
  refine call_function_entry_kw kind_sorted plain_sorted entry_sorted (ksk_s1 _ _) ?_
  unfold Builtin.«sorted»
  refine wpAny_bind (m := checkCount "sorted" 1 1 _) (wpAny_pure ?_)
  refine wpAny_bind (collect_src I (show X.A.in1.handled = none from hA) S hl fun vs h1 tk rv hk => ?_)
  have hvl := rv.length
  have hZ : vs.length ≤ sizeLine := by
    rw [← hvl, sizeLine_eq]
    omega
  refine wpAny_bind (wpAny_newList ?_ hZ)
  have I1 : Inv X pins σ H { s with heap := h1, toks := tk } := I.kept hk
  have I2 : Inv X pins σ H { s with heap := h1.push (seqObj "list" vs.toArray 0), toks := tk } := I1.kept (t' := tk) fun b o e => Heap.get?_push_of_some _ e
  have hoL : (h1.push (seqObj "list" vs.toArray 0)).get? h1.objs.size = some (seqObj "list" vs.toArray 0) := Heap.get?_push_size _ rfl
  show wpAny _ _ _ _ _ { s with heap := h1.push (seqObj "list" vs.toArray 0), toks := tk }
  have nD : H h1.objs.size = none := I1.hok.fresh (Nat.le_refl _)
  have sD : X.s_0.heap.objs.size ≤ h1.objs.size := I1.sz
  refine wpAny_bind (wpAny_holding (wpAny_call_entry_kw slot_list_sort ⟨_, hoL, rfl⟩ entry_list_sort ?_ (ksk_l1 _ _)))
  rw [ksk_t1]
  unfold ksk_tree
  refine wpAny_bind (listItems_at hoL rfl ?_)
  refine wpAny_bind (listUpdate_at hoL rfl ?_ (by rw [List.size_toArray]; exact hZ) (Nat.zero_le _))
  obtain ⟨e1, em1⟩ : ∃ e1, ((h1.push (seqObj "list" vs.toArray 0)).update h1.objs.size (Obj.mapSeq fun _ => (#[] : Array Value))).get? h1.objs.size = some (seqObj "list" #[] e1) := ⟨_, get?_update_seq hoL fun _ => #[]⟩
  refine wpAny_bind (seqEpoch_at em1 rfl ?_)
  refine wpAny_bind (wpAny_newTuple ?_ (show vs.length ≤ _ from hZ))
  refine wpAny_bind (wpAny_newList ?_ (Nat.zero_le _))
  refine wpAny_holding ?_
  have sb1 := Heap.SameBut.update (h1.push (seqObj "list" vs.toArray 0)) h1.objs.size (Obj.mapSeq fun _ => (#[] : Array Value))
  have hsz : ((h1.push (seqObj "list" vs.toArray 0)).update h1.objs.size (Obj.mapSeq fun _ => (#[] : Array Value))).objs.size = h1.objs.size + 1 := by rw [Heap.size_update, size_push']
  have hkS : (((h1.push (seqObj "list" vs.toArray 0)).update h1.objs.size (Obj.mapSeq fun _ => (#[] : Array Value))).push (seqObj "tuple" vs.toArray 0)).objs.size = h1.objs.size + 2 := by rw [size_push', hsz]
  have keep : ∀ b o, h1.get? b = some o → ((((h1.push (seqObj "list" vs.toArray 0)).update h1.objs.size (Obj.mapSeq fun _ => (#[] : Array Value))).push (seqObj "tuple" vs.toArray 0)).push (seqObj "list" #[] 0)).get? b = some o := fun b o q =>
    Heap.get?_push_of_some _ (Heap.get?_push_of_some _ ((sb1.2 b (Nat.ne_of_lt (Heap.lt_size q))).trans (Heap.get?_push_of_some _ q)))
  have I3 : Inv X pins σ H { s with heap := (((h1.push (seqObj "list" vs.toArray 0)).update h1.objs.size (Obj.mapSeq fun _ => (#[] : Array Value))).push (seqObj "tuple" vs.toArray 0)).push (seqObj "list" #[] 0), toks := tk } := I1.kept (t' := tk) keep
  have hoK : ((((h1.push (seqObj "list" vs.toArray 0)).update h1.objs.size (Obj.mapSeq fun _ => (#[] : Array Value))).push (seqObj "tuple" vs.toArray 0)).push (seqObj "list" #[] 0)).get? (((h1.push (seqObj "list" vs.toArray 0)).update h1.objs.size (Obj.mapSeq fun _ => (#[] : Array Value))).push (seqObj "tuple" vs.toArray 0)).objs.size = some (seqObj "list" #[] 0) := Heap.get?_push_size _ rfl
  have hoA : ((((h1.push (seqObj "list" vs.toArray 0)).update h1.objs.size (Obj.mapSeq fun _ => (#[] : Array Value))).push (seqObj "tuple" vs.toArray 0)).push (seqObj "list" #[] 0)).get? h1.objs.size = some (seqObj "list" #[] e1) := Heap.get?_push_of_some _ (Heap.get?_push_of_some _ em1)
  rw [hkS] at hoK ⊢
  have nK : H (h1.objs.size + 2) = none := I1.hok.fresh (Nat.le_add_right _ _)
  have old : ∀ p ∈ X.pn ++ pins, p.1 < h1.objs.size := fun p hp => Heap.lt_size (I1.pin p hp).1
  have lL : X.env.locals < h1.objs.size := I1.lt
  have l2 : h1.objs.size ≤ h1.objs.size + 2 := Nat.le_add_right _ _
  have l3 : h1.objs.size < h1.objs.size + 2 := Nat.lt_add_of_pos_right (by decide)
  have I4 : Inv X ((h1.objs.size + 2, seqObj "list" #[] 0) :: (h1.objs.size, seqObj "list" #[] e1) :: pins) σ H { s with heap := (((h1.push (seqObj "list" vs.toArray 0)).update h1.objs.size (Obj.mapSeq fun _ => (#[] : Array Value))).push (seqObj "tuple" vs.toArray 0)).push (seqObj "list" #[] 0), toks := tk } := by
    refine I3.pins_of fun p hp => ?_
    rcases List.mem_cons.mp hp with rfl | hp
    · exact ⟨hoK, nK, Nat.ne_of_gt (Nat.lt_of_lt_of_le lL l2), I1.nofs l2, fun v z => by cases z⟩
    · rcases List.mem_cons.mp hp with rfl | hp
      · exact ⟨hoA, nD, Nat.ne_of_gt lL, I1.nofs (Nat.le_refl _), fun v z => by cases z⟩
      · exact I3.pin p (List.mem_append_right _ hp)
  refine key_rest (A := X.A.in1.in1) (tp := tp) (d := d) (ky := ky) rv hZ turn I4 (Nat.le_trans sD l2) (fun p hp => ?_) fun s' H' keys e I' x' hkl hkc => ?_
  · rcases List.mem_append.mp hp with hp | hp
    · exact Nat.ne_of_lt (Nat.lt_trans (old p (List.mem_append_left _ hp)) l3)
    · rcases List.mem_cons.mp hp with rfl | hp
      · exact Nat.ne_of_lt l3
      · exact Nat.ne_of_lt (Nat.lt_trans (old p (List.mem_append_right _ hp)) l3)
  have pk := I'.pin (h1.objs.size + 2, seqObj "list" keys.toArray e) (List.mem_append_right _ (List.mem_cons_self ..))
  have pa := I'.pin (h1.objs.size, seqObj "list" #[] e1) (List.mem_append_right _ (List.mem_cons_of_mem _ (List.mem_cons_self ..)))
  refine key_end pk.1 pa.1 (Nat.ne_of_gt l3) hkl hZ (ready_of (tp := tp) (d := d) fun v hv => ?_) fun h' out c2 ho kp okS hoa => ?_
  · obtain ⟨i, hi⟩ := List.mem_iff_getElem?.mp hv
    exact ⟨_, hkc i v hi⟩
  obtain ⟨k, hord, hvals⟩ := outK_ord ho hkl rv hkc
  refine ⟨.none, rfl, ?_⟩
  refine wpAny_pure ⟨_, rfl, ?_⟩
  have I0 : Inv X pins σ H' s' := I'.pins_of fun p hp => I'.pin p (List.mem_append_right _ (List.mem_cons_of_mem _ (List.mem_cons_of_mem _ hp)))
  have kpl : (k.map fun i => xs.getD i .non).length ≤ sizeLine := by
    rw [List.length_map, hord.perm.length_eq, List.length_range, sizeLine_eq]
    omega
  have I5 : Inv X pins σ (upd H' h1.objs.size (.lst (k.map fun i => xs.getD i .non))) { s' with heap := h' } := by
    have neD : ∀ b u, H' b = some u → b ≠ h1.objs.size := fun b u e z => by
      rw [z, pa.2.1] at e
      cases e
    have neK : ∀ b u, H' b = some u → b ≠ h1.objs.size + 2 := fun b u e z => by
      rw [z, pk.2.1] at e
      cases e
    have at_ : ∀ b u, H' b = some u → upd H' h1.objs.size (.lst (k.map fun i => xs.getD i .non)) b = some u := fun b u e => by
      rw [upd_ne (neD b u e)]
      exact e
    have nch : ∀ b, b ∉ [h1.objs.size, h1.objs.size + 2] → b ≠ h1.objs.size ∧ b ≠ h1.objs.size + 2 := fun b hb => ⟨fun z => hb (by rw [z]; exact List.mem_cons_self ..), fun z => hb (by rw [z]; exact List.mem_cons_of_mem _ (List.mem_cons_self ..))⟩
    refine I0.step (g' := s'.gens) (d' := s'.drawn) (t' := s'.toks) (ch := [h1.objs.size, h1.objs.size + 2]) (fun b hb => ?_) (fun b u _ _ hb e _ => kp b u (nch b hb).2 (nch b hb).1 e) (fun b u _ _ hb e _ => ⟨u.slots, kp b u (nch b hb).2 (nch b hb).1 e⟩)
      (fun b u hb _ e => by rw [upd_ne (nch b hb).1]; exact e) (fun b u hb e => ⟨u, kp b u (nch b hb).2 (nch b hb).1 e⟩) (fun b zs e => at_ b _ e) (fun b o u e => at_ b _ e) (fun b ps e => ⟨#[], by rw [Array.append_empty]; exact at_ b _ e⟩) (fun m hm => ?_) (fun b u e => ?_) I0.bare
    · have cellne : ∀ (c : Addr) (oc : Obj), s'.heap.get? c = some oc → (∀ v, oc.data ≠ .cell v) → ∀ x c', X.env.cells.lookup x = some c' → c' ≠ c := fun c oc hc hd x c' e z => by
        obtain ⟨v, o2, h1', h2'⟩ := I'.cell x c' e
        rw [z, hc] at h1'
        cases h1'
        exact hd v h2'
      rcases List.mem_cons.mp hb with rfl | hb
      · refine ⟨.inr sD, pa.2.2.1, cellne _ _ pa.1 (fun v z => by cases z), fun p hp => Nat.ne_of_lt (old p hp)⟩
      · rw [List.mem_singleton.mp hb]
        refine ⟨.inr (Nat.le_trans sD l2), pk.2.2.1, cellne _ _ pk.1 (fun v z => by cases z), fun p hp => Nat.ne_of_lt (Nat.lt_trans (old p hp) l3)⟩
    · obtain ⟨om, es, ep, e, r⟩ := hm
      exact ⟨om, es, ep, kp _ _ (fun z => pk.2.2.1 z.symm) (fun z => pa.2.2.1 z.symm) e, r⟩
    · by_cases hb : b = h1.objs.size
      · rw [hb, upd_same] at e
        cases e
        rw [hb]
        exact ⟨kpl, out, c2, hvals, hoa⟩
      · rw [upd_ne hb] at e
        refine (I0.hok b u e).stay (fun c v hc q => kp c v ?_ ?_ q) (fun c q => at_ c _ q) fun c zs q => at_ c _ q
        · intro z
          rcases hc with hc | hc
          · exact neK b u e (hc.symm.trans z)
          · exact neK c _ hc z
        · intro z
          rcases hc with hc | hc
          · exact neD b u e (hc.symm.trans z)
          · exact neD c _ hc z
  refine ⟨.ref h1.objs.size, _, I5, rfl, h h1.objs.size _ k hord (fun b u e => ?_) nD upd_same⟩
  have e' := x' b u e
  rw [upd_ne (fun z => by rw [z, pa.2.1] at e'; cases e')]
  exact e'
end
end Lk

set_option Elab.async false
set_option linter.all false
set_option autoImplicit false
set_option maxRecDepth 100000
set_option maxHeartbeats 4000000
namespace Lk
open PySem PySem.Spec PyProof.Rows L2 LamX Srt SrtO

/-! ### a lambda of one parameter -/
/-- its names: the parameter its only own one, the rest captured from the def around it, or global -/
structure LamP (around own : Scope) (par : Str) : Prop where
  func : own.kind = .function
  plain : own.isCoroutine = false ∧ own.isGenerator = false
  bnd : own.names.lookup par = some .local
  only : ∀ y ∈ own.names, y.2 ≠ .cell ∧ (y.2 = .local → y.1 = par)
  capt : ∀ y ∈ own.names, y.2 = .free → around.names.lookup y.1 = some .cell ∨ around.names.lookup y.1 = some .free
def lamPB (around own : Scope) (par : Str) : Bool :=
  decide (own.kind = .function) && (!own.isCoroutine && !own.isGenerator) && decide (own.names.lookup par = some .local) &&
  (own.names.all (fun y => !decide (y.2 = .cell) && (!decide (y.2 = .local) || decide (y.1 = par))) && own.names.all fun y => !decide (y.2 = .free) || (decide (around.names.lookup y.1 = some .cell) || decide (around.names.lookup y.1 = some .free)))
theorem lamP_by {around own : Scope} {par : Str} (h : lamPB around own par = true) : LamP around own par := by
  unfold lamPB at h
  simp only [Bool.and_eq_true, decide_eq_true_eq, Bool.not_eq_true', List.all_eq_true, Bool.or_eq_true, decide_eq_false_iff_not] at h
  obtain ⟨⟨⟨a, b⟩, c⟩, d, e⟩ := h
  exact ⟨a, b, c, fun y hy => ⟨(d y hy).1, fun z => (d y hy).2.resolve_left fun n => n z⟩, fun y hy z => (e y hy).resolve_left fun n => n z⟩
/-- the body's context, entered at s, within A -/
def lamP (X : Cx) (A : Around) (outer : List Env) (s : Shared) (H : Hp) (own : Scope) (f c' : Addr) : Cx :=
  let env := lamEnv X own s.heap.objs.size f c'
  { prog := X.prog, w := X.w, K := X.K, mg := X.mg, base := X.base, A := A.deeper env, N := X.N, s_0 := s, H_0 := H, env := env, outer := outer, stack := env :: outer, ex := [], fn := fun _ => false, calm := true, pn := [],
    xe := fun e t => wpAny (model X.prog X.w) (A.deeper env) (leaving env e) (fun _ _ => False) (fun _ _ => False) t }
section
variable {X : Cx} {pins : List (Addr × Obj)} {σ : L2.St} {H : Hp} {s : Shared}
/-- what is captured is a cell of the def around -/
theorem LamP.cell {own : Scope} {par : Str} (L : LamP X.env.scope own par) (ok : X.Ok) : ∀ y ∈ own.names, y.2 = .free → ∃ c, X.env.cells.lookup y.1 = some c := fun y hy z => ok.has _ (L.capt y hy z)
/-- a captured name's cell is the one around -/
theorem clo_same {cells : List (Str × Addr)} {own : Scope} (has : ∀ y ∈ own.names, y.2 = .free → ∃ c, cells.lookup y.1 = some c) {y : Str} {c : Addr} (e : (cloFrom cells own.names []).lookup y = some c) : cells.lookup y = some c := by
  rcases cloFrom_mem (PySem.mem_of_lookup e) with z | ⟨mem, is⟩
  · cases z
  · obtain ⟨c0, h0⟩ := has _ mem rfl
    have h0' : cells.lookup y = some c0 := h0
    rw [h0', is, h0']
    rfl
theorem clo_has {cells : List (Str × Addr)} {own : Scope} {y : Str} (h : own.names.lookup y = some .free) : ∃ c, (cloFrom cells own.names []).lookup y = some c := mem_lookup (cloFrom_has (PySem.mem_of_lookup h))
theorem lamP_start {A : Around} {own : Scope} {f c' : Addr} {h1 : Heap} {tk : Nat} {par : Str} {x : V} {v : Value} {j : Nat} (I : Inv X pins σ H s) (L : LamP X.env.scope own par) (e0 : Env0 X.prog X.w X.K X.mg X.base A X.stack s H) (calm : A.handled = none)
    (hN : X.N[j]? = some par) (nd : X.N.Nodup) (rx : RelV x v) (fr : h1.Ns s.heap.objs.size fun y => ([(par, v)] : List (Str × Value)).reverse.lookup y) (stays : ∀ b o, s.heap.get? b = some o → h1.get? b = some o) :
    Inv (lamP X A X.stack s H own f c') [] (σ.set j (some x)) H { s with heap := h1, toks := tk } := by
  have has := L.cell I.ok
  have len := I.len
  have cellStays : ∀ {c : Addr} {u : Option Value}, s.heap.IsCell c u → h1.IsCell c u := fun ⟨o, ho, d⟩ => ⟨o, stays _ _ ho, d⟩
  have never : ∀ {b : Addr} {q : Prop}, b ∈ (lamP X A X.stack s H own f c').ex → q := fun {b q} z => by
    have z' : b ∈ ([] : List Addr) := z
    cases z'
  exact {
    ok := {
      mod := e0.mod
      kind := L.func
      glob := rfl
      blt := rfl
      above := Nat.le_refl _
      inj := fun y z c a b => I.ok.inj y z c (clo_same has a) (clo_same has b)
      has := fun y hy => by
        have hy' : own.names.lookup y = some .cell ∨ own.names.lookup y = some .free := hy
        exact hy'.elim (fun z => absurd rfl (L.only _ (PySem.mem_of_lookup z)).1) clo_has
      cab := fun y c z _ => by cases (show false = true from z)
      hd := fun _ => calm
      frames := Around.frames_deeper e0.frames
      stk := .inr ⟨rfl, rfl⟩
      exf := fun b z => never z
      bs := e0.bs
      bsz := e0.bsz
      noex := fun b o e z => never z
      exfs := fun b z => never z
      funs := e0.funs
      frf := e0.frf }
    os := rfl
    bare := e0.bare
    base := Un.kept stays
    loc := by
      refine ⟨_, fr, fun i y u name val vis => ?_⟩
      have name : X.N[i]? = some y := name
      by_cases hy : y = par
      · -- the parameter
        subst hy
        obtain rfl : i = j := nodup_ix nd name hN
        have hl : i < σ.length := len ▸ (List.getElem?_eq_some_iff.mp hN).1
        rw [List.getElem?_set_self hl] at val
        cases val
        refine ⟨v, rx, .inl ⟨L.bnd, ?_⟩⟩
        show List.lookup y [(y, v)] = some v
        rw [List.lookup_cons_self]
      · -- a captured one
        have ne : j ≠ i := fun z => hy (Option.some.inj (name.symm.trans (z ▸ hN)))
        rw [List.getElem?_set_ne ne] at val
        have vis : Vis own y := vis
        rcases vis with z | z | z
        · exact absurd ((L.only _ (PySem.mem_of_lookup z)).2 rfl) hy
        · exact ((L.only _ (PySem.mem_of_lookup z)).1 rfl).elim
        · have capt := L.capt _ (PySem.mem_of_lookup z) rfl
          obtain ⟨m, _, known⟩ := I.loc
          obtain ⟨u', rel, look⟩ := known i y u name val (.inr capt)
          obtain ⟨c, hc⟩ := clo_has (cells := X.env.cells) z
          refine ⟨u', rel, .inr ⟨.inr z, c, hc, ?_⟩⟩
          rcases look with ⟨k, _⟩ | ⟨_, c2, at2, is⟩
          · exfalso
            have k' : X.env.scope.names.lookup y = some .local := k
            rcases capt with w | w
            · cases w.symm.trans k'
            · cases w.symm.trans k'
          · obtain rfl : c = c2 := Option.some.inj ((clo_same has hc).symm.trans at2)
            exact cellStays is
    cell := fun y c e => let ⟨u, z⟩ := I.cell y c (clo_same has e); ⟨u, cellStays z⟩
    free := e0.hok.fresh (Nat.le_refl _)
    freeC := fun y c e => I.freeC y c (clo_same has e)
    pin := fun q hq => by
      have z : q ∈ ([] : List (Addr × Obj)) := hq
      cases z
    hok := e0.hok.kept stays
    len := (List.length_set ..).trans len }
/-- the lambda is called with one value -/
theorem lamP_call {A : Around} {f c' : Addr} {pm ctv : Value} {params : Arguments} {body : Expr} {own : Scope} {k j : Nat} {par : Str} {tb : TE} {x : V} {v : Value} {Q : VK} (I : Inv X pins σ H s) (L : LamP X.env.scope own par)
    (made : s.heap.get? f = some (PySem.W.kla_obj "<lambda>" (X.env.qual ++ "<lambda>") params body own (cloFrom X.env.cells own.names []) pm c' ctv))
    (bind : bindArgs (PySem.W.kla_fn "<lambda>" (X.env.qual ++ "<lambda>") params body own (cloFrom X.env.cells own.names []) pm (.ref c') ctv) ⟨[v], []⟩ = pure [(par, v)])
    (room : Room (k + 1) A) (e0 : Env0 X.prog X.w X.K X.mg X.base A X.stack s H) (code : H c' = some (CodeO c' (X.env.qual ++ "<lambda>")))
    (reads : Room k (A.deeper (lamEnv X own s.heap.objs.size f c')) → PE (lamP X A X.stack s H own f c') body tb) (hN : X.N[j]? = some par) (nd : X.N.Nodup) (rx : RelV x v) (ht : tb (σ.set j (some x)) H Q) :
    wpAny (model X.prog X.w) A (call (.ref f) [v]) (EP X pins σ Q) (fun _ _ => False) s := by
  obtain ⟨⟨oc, fields, tok, co, cf, cn⟩, -, -⟩ := I.hok c' _ code
  have run : codeAny (model X.prog X.w) A (.call (.ref f) ⟨[v], []⟩) (CR CX0 X.stack X.prog X.w H s Q E0) s := by
    refine PySem.W.kla_callFunE room.depth made rfl L.plain.1 L.plain.2 rfl ⟨c', oc, fields, tok, rfl, co, cf, cn⟩ ?_
    rw [bind]
    refine wpAny_pure (wpAny_newFunctionEnv (fun y hy => (L.only y hy).1) (fun y hy => List.mem_singleton.mp hy ▸ L.bnd) (fun h1 names same => ⟨I.nolimit.fresh _ same, ?_⟩) L.func)
    have stays : ∀ b o, s.heap.get? b = some o → h1.get? b = some o := fun b o e => same.extBut b o (Nat.ne_of_lt (Heap.lt_size e)) (Heap.get?_push_of_some _ e)
    show codeAny _ _ (.expr body (lamEnv X own s.heap.objs.size f c')) _ _
    have J := lamP_start (tk := s.toks + ([(par, v)] : List (Str × Value)).length) (f := f) (c' := c') I L e0 room.hd hN nd rx names stays
    exact PySem.W.kla_codeExpr (wpAny_mono ((reads (room.deeper _)).run [] _ _ H Q J ht) (fun _ _ ⟨y, H', J', r, q⟩ => ⟨y, H', J'.os, J'.bare, J'.base, J'.hok, r, q⟩) fun _ _ z => z)
  refine wpAny_call (codeAny_mono run fun r t fin => ?_)
  match r, fin with
  | .error _, fin => exact fin
  | .ok .next, fin => exact False.elim fin
  | .ok .brk, fin => exact False.elim fin
  | .ok .cont, fin => exact False.elim fin
  | .ok (.ret _), fin => exact I.after fin
end
theorem src_extN {K : PySem.W.Frag} {H H' : Hp} {l : Addr} {xs : List V} (x : ExtN H H') (h : Src K H l xs) : Src K H' l xs := by
  rcases h with h | ⟨n, hn, hr, e⟩
  · refine .inl ?_
    rcases h with (h | ⟨o, h⟩) | h
    · exact .inl (.inl (x _ _ h fun ps z => by cases z))
    · exact .inl (.inr ⟨o, x _ _ h fun ps z => by cases z⟩)
    · exact .inr h
  · exact .inr ⟨n, hn, x _ _ hr (fun ps z => by cases z), e⟩
/-- sorted(e, key=lambda par: body) -/
def tSortLam (K : PySem.W.Frag) (T : List (Addr × Str)) (te : TE) (j : Nat) (tb : TE) : TE := fun σ H Q => te σ H fun x H1 => Tabs T H1 ∧ ∃ (l : Addr) (xs : List V) (tp : Bool) (d : Nat) (ky : Nat → List Int), x = .ref l ∧ Src K H1 l xs ∧ xs.length ≤ 1000 ∧
  (∀ H2, ExtN H1 H2 → ∀ i x, xs[i]? = some x → tb (σ.set j (some x)) H2 fun y H4 => Ex H2 H4 ∧ KeyIs tp d H4 y (ky i)) ∧
  ∀ (D : Addr) (H5 : Hp) (k : List Nat), Ord ky xs.length k → ExtN H1 H5 → Tabs T H5 → (∀ b o, H1 b = some o → (∀ ps, o ≠ .tbl ps) → b ≠ D) → H5 D = some (.lst (k.map fun i => xs.getD i .non)) → Q (.ref D) H5
section
variable {X : Cx}
theorem pe_sortLam {T : List (Addr × Str)} {e : Expr} {te tb : TE} {c P : Addr} {k j : Nat} {params : Arguments} {body : Expr} {scope : Scope} {par : Str} {p pos lpos kpos : Pos} (hg : Gl X "sorted") (hm : X.mg "sorted" = none) (ha : PA X [e] (tCons te tNil))
    (TB : TabB X.base X.mg c P) (hcode : X.env.code = .ref c) (hmT : (P, X.env.qual ++ "<lambda>") ∈ T) (hu : ∀ p ∈ T, p.1 = P → p.2 = X.env.qual ++ "<lambda>") (hr : Room (k + 3) X.A) (L : LamP X.env.scope scope par) (hN : X.N[j]? = some par) (nd : X.N.Nodup) (hdef : defaultsOf params X.env = ([], []))
    (hbind : ∀ (q : Str) (cl : List (Str × Addr)) (pm cv ctv v : Value), bindArgs (PySem.W.kla_fn "<lambda>" q params body scope cl pm cv ctv) ⟨[v], []⟩ = pure [(par, v)])
    (hbody : ∀ (A : Around) (s : Shared) (H : Hp) (f c' : Addr), Room k (A.deeper (lamEnv X scope s.heap.objs.size f c')) → PE (lamP X A X.stack s H scope f c') body tb)
    (he : backTo pos (starEach [e] X.env) = (false, eval e X.env) :: backTo pos (starEach [] X.env) := by rfl) (hpl : (backTo pos (starEach [e] X.env)).any (·.1) = false := by rfl)
    (hall : (backToKw pos (keywordEach [⟨some "key", .Lambda params body scope lpos, kpos⟩] X.env)).all (·.1.isSome) = true := by rfl) (hnone : (backToKw pos (keywordEach [⟨some "key", .Lambda params body scope lpos, kpos⟩] X.env)).any (·.1.isNone) = false := by rfl)
    (hks : (backToKw pos (keywordEach [⟨some "key", .Lambda params body scope lpos, kpos⟩] X.env)).filterMap (·.1) = [Str.ofString "key"] := by rfl) :
    PE X (.Call (.Name "sorted" p) [e] [⟨some "key", .Lambda params body scope lpos, kpos⟩] pos) (tSortLam X.K T te j tb) := by
  refine ⟨fun pins s σ H Q I h => ?_⟩
  have hboot : bootBuiltins "sorted" = some (.builtin "sorted") := by decide +kernel
  refine wpAny_Call_Name_kw (ld_blt I hg hm hboot ?_ (by decide) (by decide))
  let St : V → Hp → Prop := fun x H1 => Tabs T H1 ∧ ∃ (l : Addr) (xs : List V) (tp : Bool) (d : Nat) (ky : Nat → List Int), x = .ref l ∧ Src X.K H1 l xs ∧ xs.length ≤ 1000 ∧
    (∀ H2, ExtN H1 H2 → ∀ i x, xs[i]? = some x → tb (σ.set j (some x)) H2 fun y H4 => Ex H2 H4 ∧ KeyIs tp d H4 y (ky i)) ∧
    ∀ (D : Addr) (H5 : Hp) (k : List Nat), Ord ky xs.length k → ExtN H1 H5 → Tabs T H5 → (∀ b o, H1 b = some o → (∀ ps, o ≠ .tbl ps) → b ≠ D) → H5 D = some (.lst (k.map fun i => xs.getD i .non)) → Q (.ref D) H5
  have h' : (tCons te tNil) σ H (fun vs H1 => match vs with | [x] => St x H1 | _ => False) := h
  refine PyProof.Rows.callWith_kw (thn (ha.run pos pins s σ H _ I h') fun us s1 ⟨vs, H1, I1, r1, q1⟩ => ?_) he hpl hall hnone
  rw [hks]
  match vs, r1, q1 with
  | [], _, q1 => exact False.elim q1
  | _ :: _ :: _, _, q1 => exact False.elim q1
  | [x], r1, q1 =>
    obtain ⟨hT, l, xs, tp, d, ky, rfl, hS, hl, hkey, hQ⟩ := q1
    rw [Vals.ref1 r1]
    show wpAny _ _ (evalAll [do let v ← eval (.Lambda params body scope lpos) X.env; standAt pos; pure v]) _ _ s1
    refine wpAny_evalAll_cons (wpAny_bind (lam_make2 I1 TB hcode hmT hu hT hdef (L.cell I1.ok) fun f c' pm ctv H2 s2 I2 eN T2 hf hfn hfr hco => wpAny_bind (wpAny_standAt (wpAny_pure ?_))))
    refine wpAny_evalAll_nil ?_
    have nL : f ≠ X.env.locals := fun z => by
      obtain ⟨m, ⟨o, es, ep, e1, e2, _⟩, _⟩ := I2.loc
      rw [← z, hf] at e1
      cases e1
      cases e2
    have nF : f ∉ X.fs := fun z => by
      rcases I2.ok.stk with e | ⟨e, _⟩
      · exact hfr (by rw [e]; exact z)
      · refine hfr ?_
        rw [e]
        unfold frs
        obtain ⟨b, hb, he⟩ := List.mem_filterMap.mp z
        exact List.mem_filterMap.mpr ⟨b, List.mem_cons_of_mem _ hb, he⟩
    have I3 : Inv X ((f, PySem.W.kla_obj "<lambda>" (X.env.qual ++ "<lambda>") params body scope (cloFrom X.env.cells scope.names []) pm c' ctv) :: pins) σ H2 s2 := by
      refine I2.pins_of fun p hp => ?_
      rcases List.mem_cons.mp hp with rfl | hp
      · exact ⟨hf, hfn, nL, nF, fun v z => by cases z⟩
      · exact I2.pin p (List.mem_append_right _ hp)
    have hr2 : Room (k + 1) X.A.in1.in1 := (show Room (k + 1 + 1) X.A.in1 from (show Room (k + 1 + 1 + 1) X.A from hr).in1).in1
    refine wpAny_mono (sort_call (Q := Q) (E := X.xe) (tp := tp) (d := d) (ky := ky) I3 hr.hd (src_extN eN hS) hl (fun i x v pins' H' s' hx rx hsub ex I' => ?_) fun D H' k hord ex hD hlst => ?_) (fun u s' hq => ?_) fun _ _ hq => hq
    · have pf := I'.pin _ (List.mem_append_right _ (hsub _ (List.mem_cons_self ..)))
      exact lamP_call (j := j) (k := k) I' L pf.1 (hbind _ _ _ _ _ _) hr2 I'.env0.in1.in1 (ex _ _ hco) (fun hr3 => hbody _ _ _ _ _ hr3) hN nd rx (hkey H' (eN.trans (ExtN.of ex)) i x hx)
    · refine hQ D H' k hord (eN.trans (ExtN.of ex)) (T2.ext ex) (fun b o e n z => ?_) hlst
      have := eN b o e n
      rw [z, hD] at this
      cases this
    · obtain ⟨w', H', I', r', q'⟩ := hq
      exact ⟨w', H', I'.pins_of fun p hp => I'.pin p (List.mem_append_right _ (List.mem_cons_of_mem _ hp)), r', q'⟩
end
end Lk

set_option Elab.async false
set_option linter.all false
set_option autoImplicit false
set_option maxRecDepth 100000
set_option maxHeartbeats 4000000
namespace Lk
open PySem PySem.Spec PyProof.Rows L2 LamX Srt SrtO
/-! ### max(list, default=d), range(n) as a value -/
/-- the greatest, d without any -/
def topD (d : Int) : List Int → Int
  | [] => d
  | n :: ns => ns.foldl max n
def rMaxD (K : PySem.W.Frag) : List V → List V → Hp → VK → Prop := fun xs zs H Q => ∃ (a : Addr) (ns : List Int) (d : Int), xs = [V.ref a] ∧ zs = [V.int d] ∧ SqL K H a (ns.map V.int) ∧ Q (.int (topD d ns)) H
theorem reads_ints {h : Heap} : ∀ {vs : List Value} {ns : List Int}, IntsAre vs ns → ReadsAll h vs (ns.map PyData.int) []
  | _, _, .nil => .nil
  | _, _, .cons n t r => .cons (.int n t) (reads_ints r)
theorem depth_ints : ∀ ns : List Int, PyData.depthAll (ns.map PyData.int) ≤ 1
  | [] => by decide
  | n :: ns => by
    have := depth_ints ns
    show max (PyData.depth (.int n)) (PyData.depthAll (ns.map PyData.int)) ≤ 1
    have e : PyData.depth (.int n) ≤ 1 := by
      show _ ≤ 1
      simp [PyData.depth]
    omega
theorem cr_maxD {X : Cx} (hc : X.calm = true) (hu : X.A.units + 64 < cLine) : CallRK X (.builtin "max") ["default"] (rMaxD X.K) := by
  intro pins s σ H xs zs us ws Q I r1 r2 h
  obtain ⟨a, ns, d, rfl, rfl, hs, q⟩ := h
  obtain ⟨its, rv, hl, _⟩ := I.list hs
  rw [Vals.ref1 r1]
  obtain ⟨u, rfl, ru⟩ := vals1 r2
  obtain ⟨t, rfl⟩ := ru
  have hi := rv.ints
  have hdep := depth_ints ns
  refine PySem.W.max_list_default (I.ok.hd hc) hl.isList (reads_ints hi) ⟨fun x hx y hy => ?_, fun x hx z => ?_⟩ (by omega) (fun e0 h' tk hk => ?_) fun y ys i v h' tk bs e0 hv hr hk => ?_
  · obtain ⟨n, _, rfl⟩ := List.mem_map.mp hx
    obtain ⟨m, _, rfl⟩ := List.mem_map.mp hy
    rfl
  · obtain ⟨n, _, rfl⟩ := List.mem_map.mp hx
    cases z
  · cases ns with
    | nil => exact ⟨.int d, H, I.kept hk, ⟨_, rfl⟩, q⟩
    | cons n ns => cases e0
  · cases ns with
    | nil => cases e0
    | cons n ns =>
      injection e0 with e1 e2
      subst e1 e2
      rw [PySem.W.maxD_ints] at hr
      cases hr with
      | int i t => exact ⟨.int _, H, I.kept hk, ⟨_, rfl⟩, q⟩
def rRange1 : List V → Hp → VK → Prop := fun vs H Q => ∃ n : Int, vs = [V.int n] ∧ ∀ p, H p = none → Q (.ref p) (upd H p (.rng 0 n))
theorem cr_range1 {X : Cx} : CallR X (.type "range") rRange1 := by
  intro pins s σ H vs us Q I r h
  obtain ⟨n, rfl, q⟩ := h
  obtain ⟨u1, rfl, ri⟩ := vals1 r
  obtain ⟨t, rfl⟩ := ri
  refine call_range_1 ⟨.ref s.heap.objs.size, upd H s.heap.objs.size (.rng 0 n), I.laid (t' := s.toks + 1 + 1) (fun b o e => Heap.get?_push_of_some _ e) (Nat.le_refl _) ?_, rfl, q _ (I.hok.fresh (Nat.le_refl _))⟩
  exact ⟨s.toks, t, s.toks + 1, Heap.get?_push_size _ rfl⟩
/-- the truth of a value -/
def tTru (K : PySem.W.Frag) (ta : TE) : L2.St → Hp → (Bool → Hp → Prop) → Prop := fun σ H Q => ta σ H fun x H' => ∃ k, TruV K x H' k ∧ Q k H'
end Lk

set_option Elab.async false
set_option linter.all false
set_option autoImplicit false
set_option maxRecDepth 100000
set_option maxHeartbeats 4000000
/-! the row's end with tables of code objects -/
namespace Lk
open PySem PySem.Spec PyProof.Rows L2 LamX
open PySem.W (Codec OpenSpec WData ReadsW ReadsAllW Well WellAll)
mutual
theorem dw_ex {K : PySem.W.Frag} {H H' : Hp} (x : Evl.Ex H H') : ∀ (d : WData) (v : V), Dw K H v d → Dw K H' v d
  | .none, _, h => by
    cases h
    exact .non
  | .bool b, _, h => by
    cases h
    exact .bl b
  | .int i, _, h => by
    cases h
    exact .int i
  | .str s, _, h => by
    cases h
    exact .str s
  | .bytes b, _, h => by
    cases h
    exact .byt _
  | .list ds, _, h => by
    cases h with
    | lst hs ha => exact .lst (Evl.ex_l x hs) (dws_ex x ds _ ha)
  | .tuple ds, _, h => by
    cases h with
    | tup hs ha => exact .tup (Evl.ex_t x hs) (dws_ex x ds _ ha)
  | .float _, _, h => by cases h
  | .dict _, _, h => by cases h
  | .bytearray _, _, h => by cases h
  | .set _, _, h => by cases h
  | .frozenset _, _, h => by cases h
  | .obj _ _, _, h => by cases h
theorem dws_ex {K : PySem.W.Frag} {H H' : Hp} (x : Evl.Ex H H') : ∀ (ds : List WData) (vs : List V), DwAll K H vs ds → DwAll K H' vs ds
  | [], _, h => by
    cases h
    exact .nil
  | d :: ds, _, h => by
    cases h with
    | cons h1 h2 => exact .cons (dw_ex x d _ h1) (dws_ex x ds _ h2)
end
/-! ### what is known when the row's def is entered: the arguments, and the empty tables -/
def startH (K : PySem.W.Frag) (h : Heap) (A : List Addr) (cs : List (Addr × Addr)) : Hp := fun b => if b ∈ cs.map Prod.snd then some (.tbl #[]) else argH K h A b
section
variable {K : PySem.W.Frag} {h : Heap} {A : List Addr} {cs : List (Addr × Addr)} {b : Addr} {u : HO}
/-- every table is there, and empty -/
abbrev Empty (h : Heap) (cs : List (Addr × Addr)) : Prop := ∀ b ∈ cs.map Prod.snd, h.get? b = some (PySem.W.tabObj #[])
theorem startH_tab (hb : b ∈ cs.map Prod.snd) : startH K h A cs b = some (.tbl #[]) := if_pos hb
theorem startH_arg (hb : b ∉ cs.map Prod.snd) : startH K h A cs b = argH K h A b := if_neg hb
theorem startH_cases (q : startH K h A cs b = some u) : (b ∈ cs.map Prod.snd ∧ u = .tbl #[]) ∨ (b ∉ cs.map Prod.snd ∧ argH K h A b = some u) := by
  by_cases hb : b ∈ cs.map Prod.snd
  · exact .inl ⟨hb, Option.some.inj (q.symm.trans (startH_tab hb))⟩
  · exact .inr ⟨hb, (startH_arg hb).symm.trans q⟩
/-- an argument's object holds a row of values -/
theorem arg_seq (ar : ∀ a ∈ A, ArgOb h A a) (q : argH K h A b = some u) : ∃ (c : Value) (vs : Array Value), h.get? b = some { cls := c, data := .seq vs } := by
  rcases argH_is ar q with ⟨_, vs, _, _, e | e⟩
  · exact ⟨_, _, e.1⟩
  · exact ⟨_, _, e.1⟩
theorem startH_more (ar : ∀ a ∈ A, ArgOb h A a) (em : Empty h cs) : Evl.Ex (argH K h A) (startH K h A cs) := fun b u q => by
  rw [startH_arg]
  · exact q
  · intro z
    obtain ⟨c, vs, e⟩ := arg_seq ar q
    have e' := (em b z).symm.trans e
    cases e'
theorem startH_ok {P : Program} {w : World} (ar : ∀ a ∈ A, ArgOb h A a) (em : Empty h cs) : HOk P w (startH K h A cs) h := fun b u q => by
  rcases startH_cases q with ⟨hb, rfl⟩ | ⟨_, q⟩
  · exact em b hb
  · have k := argH_ok (P := P) (w := w) ar b u q
    rcases argH_is ar q with ⟨_, vs, _, _, ⟨_, rfl⟩ | ⟨_, rfl⟩⟩
    · exact k
    · exact k
/-- what holds no values in a row, and is no empty table, is not known -/
theorem startH_not (ar : ∀ a ∈ A, ArgOb h A a) (em : Empty h cs) {o : Obj} (e : h.get? b = some o) (n1 : ∀ vs n, o.data ≠ .seq vs n) (n2 : o.data ≠ .fields #[]) : startH K h A cs b = none := by
  cases q : startH K h A cs b with
  | none => rfl
  | some u =>
    exfalso
    rcases startH_cases q with ⟨hb, _⟩ | ⟨_, q⟩
    · rw [em b hb] at e
      cases e
      exact n2 rfl
    · obtain ⟨c, vs, e'⟩ := arg_seq ar q
      rw [e'] at e
      cases e
      exact n1 _ _ rfl
/-- nor what is written -/
theorem startH_written (ar : ∀ a ∈ A, ArgOb h A a) (nT : ∀ b ∈ cs.map Prod.snd, K.lookup b = none) {o : Obj} (e : K.lookup b = some o) : startH K h A cs b = none := by
  cases q : startH K h A cs b with
  | none => rfl
  | some u =>
    exfalso
    have n : K.lookup b = none := by
      rcases startH_cases q with ⟨hb, _⟩ | ⟨_, q⟩
      · exact nT b hb
      · exact (argH_is ar q).1
    rw [n] at e
    cases e
end
/-- the heap without what is known, as a base -/
structure Ground (K : PySem.W.Frag) (mg : Str → Option Value) (h : Heap) (H : Hp) (cs : List (Addr × Addr)) : Prop where
  mod : L2.Mod K mg (hidT h H)
  tab : ∀ p ∈ cs, TabB (hidT h H) mg p.1 p.2
theorem ground_of {K : PySem.W.Frag} {mg mb : Str → Option Value} {h : Heap} {A : List Addr} {cs : List (Addr × Addr)} (ar : ∀ a ∈ A, ArgOb h A a) (em : Empty h cs) (nT : ∀ b ∈ cs.map Prod.snd, K.lookup b = none) (C : ∀ p ∈ cs, PySem.W.CodeHd h p.1 p.2)
    (kin : K.In h) (gl : h.Ns mainGlobals mg) (bl : h.Ns builtinsNs mb) (same : ∀ x : Str, x ≠ "__name__" → mb x = bootBuiltins x) (lim : h.NoLimit)
    (bmod : ∃ (m : Addr) (om : Obj), mg "__builtins__" = some (.ref m) ∧ m ≠ builtinsNs ∧ h.get? m = some om ∧ om.cls = .type "module" ∧ om.dict = some builtinsNs ∧ om.data = .plain) : Ground K mg h (startH K h A cs) cs := by
  -- a thing that is not known stays in sight
  have seen : ∀ {b : Addr} {o : Obj}, h.get? b = some o → (∀ vs n, o.data ≠ .seq vs n) → o.data ≠ .fields #[] → (hidT h (startH K h A cs)).get? b = some o := fun e n1 n2 => hidT_get e (startH_not ar em e n1 n2)
  have names : ∀ {b : Addr} {m : Str → Option Value}, h.Ns b m → (hidT h (startH K h A cs)).Ns b m := fun {b m} ⟨o, es, ep, e, d, rest⟩ => ⟨o, es, ep, seen e (fun _ _ z => by cases d.symm.trans z) (fun z => by cases d.symm.trans z), d, rest⟩
  refine ⟨⟨fun b o e => hidT_get (kin b o e) (startH_written ar nT e), names gl, ⟨mb, names bl, same⟩, ?_⟩, fun p hp => ?_⟩
  · obtain ⟨mc, n1, n2⟩ := lim
    exact ⟨mc, names n1, n2⟩
  have emp : h.get? p.2 = some (PySem.W.tabObj #[]) := em _ (List.mem_map_of_mem hp)
  obtain ⟨og, eg1, eg2, g1, g2, _⟩ := id gl
  have gT : mainGlobals ≠ p.2 := fun z => by
    rw [z, emp] at g1
    cases g1
    cases g2
  refine ⟨?_, ?_, gT⟩
  · obtain ⟨o, us, v1, v2, v3, v4, v5, v6, v7, hget, hcls, hdat, hrow, more⟩ := C p hp
    refine ⟨o, us, v1, v2, v3, v4, v5, v6, v7, seen hget (fun _ _ z => by cases hdat.symm.trans z) (fun z => ?_), hcls, hdat, hrow, more⟩
    cases hdat.symm.trans z
    simp at hrow
  · obtain ⟨m, om, m1, m2, m3, m4, m5, m6⟩ := bmod
    refine ⟨m, om, m1, m2, fun z => ?_, fun z => ?_, seen m3 (fun _ _ z => by cases m6.symm.trans z) (fun z => by cases m6.symm.trans z), m4, m5, m6⟩
    · rw [z, g1] at m3
      cases m3
      cases g2.symm.trans m6
    · rw [z, emp] at m3
      cases m3
      cases m6
/-- the row's def, called -/
theorem spec_callT {P : Program} {w : World} {K : PySem.W.Frag} {mg mb : Str → Option Value} {CX : CXT} {k : Nat} {fa : Addr} {cs : List (Addr × Addr)} {fd : FuncData} {ps : List Str} {sp : Sp} {s : Shared} {given : List Value} {ds : List WData} {R : PySem.W.WRecords} {cl : Str → Option Addr} {due : WData}
    (kin : K.In s.heap) (gl : s.heap.Ns mainGlobals mg) (bl : s.heap.Ns builtinsNs mb) (same : ∀ x : Str, x ≠ "__name__" → mb x = bootBuiltins x) (lim : s.heap.NoLimit) (gens : s.gens = #[])
    (em : Empty s.heap cs) (nT : ∀ b ∈ cs.map Prod.snd, K.lookup b = none) (C : ∀ p ∈ cs, PySem.W.CodeHd s.heap p.1 p.2)
    (bmod : ∃ (m : Addr) (om : Obj), mg "__builtins__" = some (.ref m) ∧ m ≠ builtinsNs ∧ s.heap.get? m = some om ∧ om.cls = .type "module" ∧ om.dict = some builtinsNs ∧ om.data = .plain)
    (well : WellAll w.params s.heap given ds) (plain : plWs ds = true) (light : ∀ d ∈ ds, d.weight ≤ 1048576) (room : Room k callerA)
    (F : ∀ base : Heap, K.In base → base.Ns mainGlobals mg → (∀ p ∈ cs, TabB base mg p.1 p.2) → FnOk P w K mg base CX k fa fd ps sp) (bind : ∀ (s : Shared) (us : List Value), us.length = ps.length → BindsTo s fd ⟨us, []⟩ (ps.zip us)) (many : ds.length = ps.length)
    (asks : ∀ (H : Hp) (xs : List V), (∀ p ∈ cs, H p.2 = some (.tbl #[])) → DwAll K H xs ds → sp xs H (fun v H' => Dw K H' v due) fun _ _ _ => False)
    (none_ : ∀ H e s', CX [] H s (fun _ _ _ => False) e s' → False) :
    codeAny (model P w) callerA (.call (.ref fa) ⟨given, []⟩) (fun r t => ∃ u as, r = .ok (.ret u) ∧ ReadsW R cl t.heap u due as ∧ OldK s.heap t.heap ∧ t.os = s.os ∧ AllBare t.gens) s := by
  obtain ⟨A, inA, ar⟩ := area_all ds given well plain light
  have G := ground_of ar em nT C kin gl bl same lim bmod
  have nofr : ∀ b : Addr, b ∉ frs [] := fun b z => by
    have z' : b ∈ ([] : List Addr) := z
    cases z'
  have env : Env0 P w K mg (hidT s.heap (startH K s.heap A cs)) callerA [] s (startH K s.heap A cs) :=
    { frames := rfl, mod := G.mod, bs := fun b o e => of_hidT e, bsz := Nat.le_of_eq (hidT_size _ _), funs := trivial, frf := fun b hb => absurd hb (nofr b), hok := startH_ok ar em, bare := .of_eq gens }
  have run := (F _ G.mod.kin G.mod.glob G.tab).run callerA [] s (startH K s.heap A cs) ⟨given, []⟩ given (given.map toV) (fun v H' => Dw K H' v due) (fun _ _ _ => False) room env (bind s given ((wellAll_len well).trans many)) (vals_toV inA)
    (asks _ _ (fun p hp => startH_tab (List.mem_map_of_mem hp)) (dws_ex (startH_more ar em) ds _ (dw_all kin ar ds given well plain inA)))
  refine codeAny_mono run fun r t end_ => ?_
  match r, end_ with
  | .error e, end_ => exact (none_ _ e t end_).elim
  | .ok .next, end_ => exact False.elim end_
  | .ok .brk, end_ => exact False.elim end_
  | .ok .cont, end_ => exact False.elim end_
  | .ok (.ret u), ⟨v, H', os, bare, un, hok, rel, told⟩ =>
    -- tables have grown, all else stands
    have grown : ∀ b ∈ cs.map Prod.snd, ∃ more : Array Value, t.heap.get? b = some (PySem.W.tabObj more) := fun b hb => by
      obtain ⟨more, z⟩ := un.tbls b #[] (startH_tab hb)
      exact ⟨_, hok b _ z⟩
    have stands : ∀ b o, b ∉ cs.map Prod.snd → s.heap.get? b = some o → t.heap.get? b = some o := fun b o nb e => by
      cases q : argH K s.heap A b with
      | none => exact un.keep b o e ((startH_arg nb).trans q) (nofr b) (fun z => by cases z)
      | some x =>
        obtain ⟨ob, y, rfl⟩ : ∃ ob y, x = .frz ob y := by
          rcases argH_only ar b with z | ⟨ob, y, z⟩
          · rw [q] at z
            cases z
          · exact ⟨ob, y, Option.some.inj (q.symm.trans z)⟩
        have q0 : startH K s.heap A cs b = some (.frz ob y) := (startH_arg nb).trans q
        have before : s.heap.get? b = some ob := (startH_ok (P := P) (w := w) ar em b _ q0).1
        have behind : t.heap.get? b = some ob := (hok b _ (un.frzs b ob y q0)).1
        rw [before] at e
        rw [behind]
        exact e
    have kin' : K.In t.heap := fun b o e => stands b o (fun z => by
      rw [nT b z] at e
      cases e) (kin b o e)
    obtain ⟨as, reads⟩ := Dw.reads (R := R) (cl := cl) hok kin' due v u told rel
    refine ⟨u, as, rfl, reads, ⟨fun b o e => ?_, fun b o e => ?_⟩, os, bare⟩
    · by_cases hb : b ∈ cs.map Prod.snd
      · obtain ⟨more, now⟩ := grown b hb
        obtain ⟨p, hp, rfl⟩ := List.mem_map.mp hb
        have e' := e.symm.trans (em _ hb)
        cases e'
        exact .inr (.inl ⟨((C p hp).tab (em _ hb)).isCodeTable, rfl, #[], more, rfl, by rw [Array.empty_append]; exact now⟩)
      · exact .inl (stands b o hb e)
    · by_cases hb : b ∈ cs.map Prod.snd
      · obtain ⟨more, now⟩ := grown b hb
        exact ⟨_, now⟩
      · exact ⟨o, stands b o hb e⟩
/-- the row, with tables -/
theorem walk_specT {r : OpenSpec} {k : Nat} {q : Program} {loose : List Str} {XP : (Str → Option Value) → Heap → Prop} {YP : World → Heap → Prop} {d : DefRec} {K : Params → PySem.W.Frag} {CX : CXT} {ps : List Str}
    (said : r.wellSaid = true) (nodef : d.params.defaults = []) (many : r.args.length = ps.length) (room : Room k callerA) (writ : ∀ (w : World) (h : Heap), YP w h → (K w.params).In h)
    (F : ∀ (w : World) (mg : Str → Option Value) (fa : Addr) (h : Heap), YP w h → (K w.params).In h → h.Ns mainGlobals mg → mg d.name = some (.ref fa) → (∀ (d : DefRec) (x : Str) (c P : Addr), (recsOf q).find? (fun e => e.name == x) = some d → PySem.W.tabIn (K w.params) x = some (c, P) → PySem.W.CodeHd h c P ∧ h.get? P = some (PySem.W.tabObj #[])) →
      ∃ (fd : FuncData) (cs : List (Addr × Addr)) (sp : Sp), (∀ p ∈ cs, h.get? p.2 = some (PySem.W.tabObj #[])) ∧ (∀ p ∈ cs, (K w.params).lookup p.2 = none) ∧ (∀ p ∈ cs, PySem.W.CodeHd h p.1 p.2) ∧
        (∀ (s : Shared) (us : List Value), us.length = ps.length → BindsTo s fd ⟨us, []⟩ (ps.zip us)) ∧
        (∀ (H : Hp) (xs : List V) (a : Codec.denoteAll r.args), (∀ p ∈ cs, H p.2 = some (.tbl #[])) → Codec.withinAll r.args a = true → Codec.app r.args r.asked a = true → DwAll (K w.params) H xs (Codec.encAll r.args a) →
          sp xs H (fun v H' => Dw (K w.params) H' v (r.ret.enc (Codec.app r.args r.f a))) fun _ _ _ => False) ∧
        ∀ base : Heap, (K w.params).In base → base.Ns mainGlobals mg → (∀ p ∈ cs, TabB base mg p.1 p.2) → FnOk r.prog w (K w.params) mg base CX k fa fd ps sp)
    (none_ : ∀ (H : Hp) (s : Shared) (e : Value) (s' : Shared), CX [] H s (fun _ _ _ => False) e s' → False) : PySem.W.WalkOS q loose XP YP r d [] (fun f vs => PySem.call f vs) := by
  intro w before s mg mb G Y fa ob m1 m2 m3 m4 m5 n1 n2 n3 n4 at_ gens args given as pre lay rd well low
  obtain ⟨a, dec, ask⟩ := PySem.W.os_pre_some pre
  obtain ⟨rfl, within⟩ := Codec.encAll_of_decAll r.args args a dec
  have kin := writ w _ Y
  obtain ⟨fd, cs, sp, em, nT, C, bind, asks, ok⟩ := F w mg fa _ Y kin G.T.g at_ (fun d x c P f t => PySem.W.tab_of G.T kin f t)
  have each : ∀ {p : Addr → Prop}, (∀ q ∈ cs, p q.2) → ∀ b ∈ cs.map Prod.snd, p b := fun h b hb => by
    obtain ⟨q, hq, rfl⟩ := List.mem_map.mp hb
    exact h q hq
  have run := spec_callT (R := []) (cl := classAt before.heap) (due := r.ret.enc (Codec.app r.args r.f a)) kin G.T.g G.T.b G.T.builtins G.T.nolimit gens (each em) (each nT) C G.T.bmain well (pl_encAll _ _) (layable_weight lay) room ok bind ((encAll_len _ _).trans many) (fun H xs hT hS => asks H xs a hT within ask hS) (fun H e s' => none_ H s e s')
  refine PySem.W.enter_call (codeAny_mono run fun res t fin => ?_)
  obtain ⟨u, as', rfl, reads, old, os, bare⟩ := fin
  exact ⟨.inl ⟨u, _, as', rfl, fun _ => rfl, reads, (OpenSpec.post_iff said within _ _).mpr rfl, fun z => by cases (show false = true from z)⟩, old, os, bare⟩
/-- a def whose code object is known -/
theorem okC {P : Program} {w : World} {K : PySem.W.Frag} {mg : Str → Option Value} {base : Heap} {x qual : Str} {st : Stmt} {f c : Addr} {fd : FuncData} {N ps : List Str} {k : Nat} {sp : Sp} (F : Fun K x qual st f fd) (hc : fd.code = .ref c) (S : FnScope N ps (defScope st)) (len : ∀ vs H Q E, sp vs H Q E → vs.length = ps.length)
    (hbody : ∀ (A : Around) (outer : List Env) (s : Shared) (H : Hp) (vs : List V) (Q : VK) (E : XK), Room k (A.deeper (envOfC qual (defScope st) s.heap.objs.size f (.ref c))) → sp vs H Q E →
      ∃ t, PSs (cxOf CX0 P w K mg base N qual (defScope st) f (.ref c) A outer s H E).nox (defBody st) t ∧ t { nx := fun _ H' => Q .non H', rt := Q } (start N vs) H) : FnOk P w K mg base CX0 (k + 1) f fd ps sp := by
  obtain ⟨o1, o2, o3, o4, o5, o6, cd, o7, o8, rfl, look, code⟩ := F.ex
  obtain rfl : cd = .ref c := hc
  exact fn_of look code S len fun A outer s H vs Q E room promise => let ⟨t, h, q⟩ := hbody A outer s H vs Q E room promise; ⟨t, h.nox, q⟩
end Lk
namespace Lk
open PySem
theorem tab_uniq : ∀ {T : List (Addr × Str)} {P : Addr} {q : Str}, (T.map (·.1)).Nodup → (P, q) ∈ T → ∀ p ∈ T, p.1 = P → p.2 = q
  | [], _, _, _, h, _, _, _ => by cases h
  | x :: T, P, q, nd, h, p, hp, e => by
    rw [List.map_cons, List.nodup_cons] at nd
    rcases List.mem_cons.mp h with h1 | h1
    · rcases List.mem_cons.mp hp with h2 | h2
      · rw [h2, ← h1]
      · exfalso
        refine nd.1 (List.mem_map.mpr ⟨p, h2, ?_⟩)
        rw [e, ← h1]
    · rcases List.mem_cons.mp hp with h2 | h2
      · exfalso
        refine nd.1 (List.mem_map.mpr ⟨(P, q), h1, ?_⟩)
        rw [← h2, e]
      · exact tab_uniq nd.2 h1 p h2 e
end Lk

set_option Elab.async false
/-! The flat list of calls against the machine: one call after another. Nothing of the program here. -/
namespace La
open Kv413 Kv413Neutral PyKv413

theorem whole_id (c : List (List Int)) : whole c = c := by
  unfold whole
  split <;> rfl
theorem map_whole (cs : List (List (List Int))) : cs.map whole = cs := by
  have e : whole = id := funext whole_id
  rw [e, List.map_id]
/-- how many numbers stand behind a call's own -/
def args (p : Int) : Nat := match PyKv413.shape p with
  | some (n, _) => n
  | none => 0
theorem shape_in {p : Int} (h : ¬ (0 ≤ p ∧ p ≤ 23)) : PyKv413.shape p = none := by
  unfold PyKv413.shape
  iterate 24 rw [if_neg (by omega)]
theorem place_of {p : Int} (h : 0 ≤ p ∧ p ≤ 23) : p = 0 ∨ p = 1 ∨ p = 2 ∨ p = 3 ∨ p = 4 ∨ p = 5 ∨ p = 6 ∨ p = 7 ∨ p = 8 ∨ p = 9 ∨ p = 10 ∨ p = 11 ∨ p = 12 ∨ p = 13 ∨ p = 14 ∨ p = 15 ∨ p = 16 ∨ p = 17 ∨ p = 18 ∨ p = 19 ∨ p = 20 ∨ p = 21 ∨ p = 22 ∨ p = 23 := by omega
theorem shape_rows {p : Int} {n k : Nat} (h : PyKv413.shape p = some (n, k)) : k = 0 ∧ 0 ≤ p ∧ p ≤ 23 := by
  by_cases hp : 0 ≤ p ∧ p ≤ 23
  · rcases place_of hp with rfl | rfl | rfl | rfl | rfl | rfl | rfl | rfl | rfl | rfl | rfl | rfl | rfl | rfl | rfl | rfl | rfl | rfl | rfl | rfl | rfl | rfl | rfl | rfl
    all_goals
      cases h
      exact ⟨rfl, by decide, by decide⟩
  · rw [shape_in hp] at h
    cases h
/-- one call is taken off the list -/
theorem calls_cons {f : Nat} {p : Int} {r : List Int} {cs : List (List (List Int))} (h : PyFlat.calls PyKv413.shape f (p :: r) = some cs) :
    ∃ f' n cs', PyKv413.shape p = some (n, 0) ∧ n ≤ r.length ∧ cs = [p :: r.take n] :: cs' ∧ PyFlat.calls PyKv413.shape f' (r.drop n) = some cs' := by
  cases f with
  | zero => cases h
  | succ f =>
    have h' : (match PyFlat.call PyKv413.shape (p :: r) with
      | none => none
      | some (c, t) => match PyFlat.calls PyKv413.shape f t with
        | none => none
        | some cs => some (c :: cs)) = some cs := h
    cases e : PyFlat.call PyKv413.shape (p :: r) with
    | none => rw [e] at h'; cases h'
    | some q =>
      obtain ⟨c, t⟩ := q
      rw [e] at h'
      have h2 : (match PyFlat.calls PyKv413.shape f t with
        | none => none
        | some cs => some (c :: cs)) = some cs := h'
      cases e2 : PyFlat.calls PyKv413.shape f t with
      | none => rw [e2] at h2; cases h2
      | some cs' =>
        rw [e2] at h2
        have h3 : some (c :: cs') = some cs := h2
        injection h3 with h3
        have e3 : (match PyKv413.shape p with
          | none => none
          | some (n, k) => if r.length < n then none else match PyFlat.rows k (r.drop n) with
            | none => none
            | some (xs, t) => some ((p :: r.take n) :: xs, t)) = some (c, t) := e
        cases es : PyKv413.shape p with
        | none => rw [es] at e3; cases e3
        | some q =>
          obtain ⟨n, k⟩ := q
          obtain ⟨rfl, _, _⟩ := shape_rows es
          rw [es] at e3
          have e4 : (if r.length < n then none else some ([p :: r.take n], r.drop n)) = some (c, t) := e3
          by_cases hl : r.length < n
          · rw [if_pos hl] at e4; cases e4
          · rw [if_neg hl] at e4
            injection e4 with e4
            injection e4 with e5 e6
            subst e5 e6
            exact ⟨f, n, cs', rfl, Nat.le_of_not_lt hl, h3.symm, e2⟩
theorem calls_nil {f : Nat} {cs : List (List (List Int))} (h : PyFlat.calls PyKv413.shape f [] = some cs) : cs = [] := by
  cases f <;> (injection h with h; exact h.symm)
/-- a call's numbers lie where the document has them -/
def inCall (c : List (List Int)) : Bool := PyInside.call PyKv413.bound c
/-- what is left of the list, the state, and what is still to be told -/
structure Left (s : Kv413.State) (rest todo : List Int) (m : Nat) : Prop where
  ex : ∃ f cs, PyFlat.calls PyKv413.shape f rest = some cs ∧ cs.all inCall = true ∧ cs.length = m ∧ todo = PyFlat.told (PyFlat.played Kv413Neutral.step s cs)
theorem Left.start {l : List Int} (h : PyKv413.answers_asked l = true) : ∃ m, m ≤ 256 ∧ Left none l (PyKv413.answers l) m := by
  unfold PyKv413.answers_asked at h
  cases e : PyFlat.calls PyKv413.shape l.length l with
  | none => rw [e] at h; cases h
  | some raw =>
    rw [e] at h
    have h2 : (!raw.isEmpty && PyFlat.atMost 256 raw && PyInside.calls PyKv413.bound raw && Kv413Neutral.asked (raw.map whole) && PyFlat.short 10000000 (PyKv413.answers l)) = true := h
    simp only [Bool.and_eq_true] at h2
    refine ⟨raw.length, of_decide_eq_true h2.1.1.1.2, ⟨l.length, raw, e, h2.1.1.2, rfl, ?_⟩⟩
    unfold PyKv413.answers PyKv413.calls
    rw [e]
    show PyFlat.told (PyFlat.played _ _ (raw.map whole)) = _
    rw [map_whole]
    rfl
theorem asked_short {l : List Int} (h : PyKv413.answers_asked l = true) : (PyKv413.answers l).length ≤ 10000000 := by
  unfold PyKv413.answers_asked at h
  cases e : PyFlat.calls PyKv413.shape l.length l with
  | none => rw [e] at h; cases h
  | some raw =>
    rw [e] at h
    have h2 : (!raw.isEmpty && PyFlat.atMost 256 raw && PyInside.calls PyKv413.bound raw && Kv413Neutral.asked (raw.map whole) && PyFlat.short 10000000 (PyKv413.answers l)) = true := h
    simp only [Bool.and_eq_true] at h2
    exact of_decide_eq_true h2.2
theorem Left.nil {s : Kv413.State} {todo : List Int} {m : Nat} (h : Left s [] todo m) : todo = [] := by
  obtain ⟨f, cs, h1, _, _, h4⟩ := h.ex
  rw [calls_nil h1] at h4
  exact h4
theorem Left.cons {s : Kv413.State} {p : Int} {r todo : List Int} {m : Nat} (h : Left s (p :: r) todo m) :
    ∃ n m' todo', PyKv413.shape p = some (n, 0) ∧ n ≤ r.length ∧ m = m' + 1 ∧ inCall [p :: r.take n] = true ∧ todo = (((Kv413Neutral.step s [p :: r.take n]).2.length : Int) :: (Kv413Neutral.step s [p :: r.take n]).2) ++ todo' ∧
      Left (Kv413Neutral.step s [p :: r.take n]).1 (r.drop n) todo' m' := by
  obtain ⟨f, cs, h1, h2, h3, h4⟩ := h.ex
  obtain ⟨f', n, cs', a1, a2, a3, a4⟩ := calls_cons h1
  subst a3
  rw [List.all_cons, Bool.and_eq_true] at h2
  refine ⟨n, cs'.length, PyFlat.told (PyFlat.played Kv413Neutral.step (Kv413Neutral.step s [p :: r.take n]).1 cs'), a1, a2, ?_, h2.1, h4, ⟨f', cs', a4, h2.2, rfl, rfl⟩⟩
  rw [← h3]
  rfl

/-! the machine's answers, call by call -/
theorem step_none {c : List (List Int)} {k : Kv413.Call} (h : callOf c = some k) (hb : k ≠ .begin_) : Kv413Neutral.step none c = (none, [-11]) := by
  unfold Kv413Neutral.step
  rw [h]
  cases k <;> first
    | exact absurd rfl hb
    | rfl
theorem step_some {c : List (List Int)} {k : Kv413.Call} (a : Kv413.Abs) (h : callOf c = some k) : Kv413Neutral.step (some a) c = (some (a.does k).1, row (a.does k).2) := by
  unfold Kv413Neutral.step
  rw [h]
  rfl
end La

set_option Elab.async false
/-! Rows of events: what the most events of a row are, by the equation that they keep. Nothing of the program here. -/
namespace La
open Kv413

/-! ### the greatest of a list, 0 without any -/
def top (l : List Nat) : Nat := l.foldl max 0
theorem foldl_max (l : List Nat) : ∀ a : Nat, l.foldl max a = max a (top l) := by
  unfold top
  induction l with
  | nil => intro a; simp
  | cons x r ih =>
    intro a
    rw [List.foldl_cons, List.foldl_cons, ih (max a x), ih (max 0 x)]
    omega
theorem top_nil : top [] = 0 := rfl
theorem top_cons (x : Nat) (r : List Nat) : top (x :: r) = max x (top r) := by
  show r.foldl max (max 0 x) = _
  rw [foldl_max]
  omega
theorem top_append (l r : List Nat) : top (l ++ r) = max (top l) (top r) := by
  show (l ++ r).foldl max 0 = _
  rw [List.foldl_append, foldl_max]
  rfl
theorem le_top {l : List Nat} {x : Nat} (h : x ∈ l) : x ≤ top l := by
  induction l with
  | nil => cases h
  | cons y r ih =>
    rw [top_cons]
    rcases List.mem_cons.mp h with e | h
    · omega
    · have := ih h
      omega
theorem top_le {l : List Nat} {b : Nat} (h : ∀ x ∈ l, x ≤ b) : top l ≤ b := by
  induction l with
  | nil => exact Nat.zero_le _
  | cons y r ih =>
    rw [top_cons]
    have h1 := h y (List.mem_cons_self ..)
    have h2 := ih fun x hx => h x (List.mem_cons_of_mem _ hx)
    omega
theorem top_mem {l : List Nat} : l = [] ∨ top l ∈ l := by
  induction l with
  | nil => exact .inl rfl
  | cons y r ih =>
    refine .inr ?_
    rw [top_cons]
    rcases ih with rfl | ih
    · rw [top_nil, Nat.max_zero]
      exact List.mem_cons_self ..
    · rcases Nat.le_total y (top r) with h | h
      · rw [Nat.max_eq_right h]
        exact List.mem_cons_of_mem _ ih
      · rw [Nat.max_eq_left h]
        exact List.mem_cons_self ..

/-! ### the order in which events are laid -/
def Ahead (a : Now) (i j : Nat) : Prop := (a.at_ i).u < (a.at_ j).u ∨ (a.at_ i).u = (a.at_ j).u ∧ ((a.at_ i).v < (a.at_ j).v ∨ (a.at_ i).v = (a.at_ j).v ∧ i < j)
instance (a : Now) (i j : Nat) : Decidable (Ahead a i j) := by unfold Ahead; exact inferInstance
theorem Ahead.irrefl {a : Now} {i : Nat} : ¬ Ahead a i i := by
  unfold Ahead
  omega
theorem Ahead.trans {a : Now} {i j k : Nat} (h1 : Ahead a i j) (h2 : Ahead a j k) : Ahead a i k := by
  unfold Ahead at *
  omega
theorem Ahead.total {a : Now} {i j : Nat} (h : i ≠ j) : Ahead a i j ∨ Ahead a j i := by
  unfold Ahead
  omega
theorem event_ext {e f : Event} (h1 : e.u = f.u) (h2 : e.v = f.v) : e = f := by
  cases e
  cases f
  unfold Event.u at h1
  unfold Event.v at h2
  simp only [Event.mk.injEq]
  simp only at h1 h2
  omega
theorem heard_iff {e f : Event} : heard e f = true ↔ e.u ≤ f.u ∧ e.v ≤ f.v := by
  unfold heard
  rw [Bool.and_eq_true, decide_eq_true_iff, decide_eq_true_iff]
theorem next_iff {a : Now} {i j : Nat} : a.next i j = true ↔ i ≠ j ∧ heard (a.at_ i) (a.at_ j) = true ∧ (a.at_ i ≠ a.at_ j ∨ i < j) := by
  unfold Now.next
  simp only [Bool.and_eq_true, Bool.or_eq_true, bne_iff_ne, decide_eq_true_iff, ne_eq, and_assoc]
theorem next_ahead {a : Now} {i j : Nat} (h : a.next i j = true) : Ahead a i j := by
  obtain ⟨h1, h2, h3⟩ := next_iff.mp h
  obtain ⟨hu, hv⟩ := heard_iff.mp h2
  unfold Ahead
  rcases h3 with h3 | h3
  · by_cases eu : (a.at_ i).u = (a.at_ j).u
    · by_cases ev : (a.at_ i).v = (a.at_ j).v
      · exact absurd (event_ext eu ev) h3
      · omega
    · omega
  · omega

/-! ### how many lie ahead -/
theorem filter_lt {l : List Nat} {p q : Nat → Bool} (h : ∀ x ∈ l, p x = true → q x = true) {y : Nat} (hy : y ∈ l) (h1 : q y = true) (h2 : p y = false) : (l.filter p).length < (l.filter q).length := by
  induction l with
  | nil => cases hy
  | cons x r ih =>
    have le : (r.filter p).length ≤ (r.filter q).length := by
      clear ih hy
      induction r with
      | nil => exact Nat.le_refl _
      | cons z s ih2 =>
        have hz := h z (List.mem_cons_of_mem _ (List.mem_cons_self ..))
        have ih3 := ih2 fun w hw => h w (by
          rcases List.mem_cons.mp hw with e | e
          · rw [e]; exact List.mem_cons_self ..
          · exact List.mem_cons_of_mem _ (List.mem_cons_of_mem _ e))
        rw [List.filter_cons, List.filter_cons]
        by_cases hp : p z = true
        · rw [if_pos hp, if_pos (hz hp)]
          simp only [List.length_cons]
          omega
        · rw [if_neg hp]
          split
          · simp only [List.length_cons]; omega
          · exact ih3
    rw [List.filter_cons, List.filter_cons]
    rcases List.mem_cons.mp hy with e | e
    · subst e
      rw [if_pos h1, if_neg (by rw [h2]; decide)]
      simp only [List.length_cons]
      omega
    · have ih3 := ih (fun w hw => h w (List.mem_cons_of_mem _ hw)) e
      by_cases hp : p x = true
      · rw [if_pos hp, if_pos (h x (List.mem_cons_self ..) hp)]
        simp only [List.length_cons]
        omega
      · rw [if_neg hp]
        split
        · simp only [List.length_cons]; omega
        · exact ih3
def rank (a : Now) (j : Nat) : Nat := (a.all.filter fun i => decide (Ahead a i j)).length
theorem mem_all {a : Now} {i : Nat} : i ∈ a.all ↔ i < a.l.length := by
  unfold Now.all
  exact List.mem_range
theorem rank_lt {a : Now} {i j : Nat} (hi : i < a.l.length) (h : Ahead a i j) : rank a i < rank a j := by
  unfold rank
  refine filter_lt (fun x _ hx => ?_) (mem_all.mpr hi) (decide_eq_true h) (decide_eq_false Ahead.irrefl)
  exact decide_eq_true ((of_decide_eq_true hx).trans h)
theorem rank_small {a : Now} {j : Nat} (hj : j < a.l.length) : rank a j < a.l.length := by
  have h : (a.all.filter fun i => decide (Ahead a i j)).length < (a.all.filter fun _ => true).length := filter_lt (fun _ _ _ => rfl) (mem_all.mpr hj) rfl (decide_eq_false Ahead.irrefl)
  have e : (a.all.filter fun _ => true).length = a.l.length := by
    rw [List.filter_eq_self.mpr (fun _ _ => rfl)]
    unfold Now.all
    exact List.length_range
  rw [e] at h
  exact h

/-! ### the equation -/
def before (a : Now) (j : Nat) : List Nat := a.all.filter fun i => a.next i j
theorem mem_before {a : Now} {i j : Nat} : i ∈ before a j ↔ i < a.l.length ∧ a.next i j = true := by
  unfold before
  rw [List.mem_filter, mem_all]
theorem longs_succ (a : Now) (f j : Nat) : a.longs (f + 1) j = top ((before a j).map (a.longs f)) + 1 := rfl
theorem longs_stay {a : Now} : ∀ (f j : Nat), rank a j ≤ f → a.longs (f + 1) j = a.longs f j
  | 0, j, h => by
    have e : before a j = [] := by
      rw [List.eq_nil_iff_forall_not_mem]
      intro i hi
      obtain ⟨h1, h2⟩ := mem_before.mp hi
      have := rank_lt h1 (next_ahead h2)
      omega
    rw [longs_succ, e]
    rfl
  | f + 1, j, h => by
    rw [longs_succ, longs_succ]
    have e : (before a j).map (a.longs (f + 1)) = (before a j).map (a.longs f) := by
      refine List.map_congr_left fun i hi => ?_
      obtain ⟨h1, h2⟩ := mem_before.mp hi
      have := rank_lt h1 (next_ahead h2)
      exact longs_stay f i (by omega)
    rw [e]
theorem long_eq {a : Now} {j : Nat} (hj : j < a.l.length) : a.long j = top ((before a j).map a.long) + 1 := by
  have hr := rank_small hj
  unfold Now.long
  cases e : a.l.length with
  | zero => omega
  | succ m =>
    rw [longs_succ]
    have e2 : (before a j).map (a.longs m) = (before a j).map (a.longs (m + 1)) := by
      refine List.map_congr_left fun i hi => ?_
      obtain ⟨h1, h2⟩ := mem_before.mp hi
      have := rank_lt h1 (next_ahead h2)
      exact (longs_stay m i (by omega)).symm
    rw [e2]
/-- whatever keeps the equation is it -/
theorem long_only {a : Now} {g : Nat → Nat} (hg : ∀ j, j < a.l.length → g j = top ((before a j).map g) + 1) : ∀ j, j < a.l.length → g j = a.long j := by
  have main : ∀ m j, rank a j < m → j < a.l.length → g j = a.long j := by
    intro m
    induction m with
    | zero => intro j h; omega
    | succ m ih =>
      intro j h hj
      rw [hg j hj, long_eq hj]
      have e : (before a j).map g = (before a j).map a.long := by
        refine List.map_congr_left fun i hi => ?_
        obtain ⟨h1, h2⟩ := mem_before.mp hi
        have := rank_lt h1 (next_ahead h2)
        exact ih i (by omega) h1
      rw [e]
  intro j hj
  exact main (rank a j + 1) j (Nat.lt_succ_self _) hj
theorem long_pos {a : Now} {j : Nat} (hj : j < a.l.length) : 1 ≤ a.long j := by
  rw [long_eq hj]
  omega
/-- one ahead, that is one less -/
theorem long_back {a : Now} {j : Nat} (hj : j < a.l.length) (h : 1 < a.long j) : ∃ i, i < a.l.length ∧ a.next i j = true ∧ a.long i + 1 = a.long j := by
  have e := long_eq hj
  rcases top_mem (l := (before a j).map a.long) with h0 | h0
  · rw [h0] at e
    rw [e] at h
    exact absurd h (by decide)
  · obtain ⟨i, hi, ei⟩ := List.mem_map.mp h0
    obtain ⟨h1, h2⟩ := mem_before.mp hi
    exact ⟨i, h1, h2, by omega⟩
theorem long_next {a : Now} {i j : Nat} (hi : i < a.l.length) (hj : j < a.l.length) (h : a.next i j = true) : a.long i + 1 ≤ a.long j := by
  have e := long_eq hj
  have m : a.long i ∈ (before a j).map a.long := List.mem_map.mpr ⟨i, mem_before.mpr ⟨hi, h⟩, rfl⟩
  have := le_top m
  omega
theorem long_le_rank {a : Now} : ∀ (m j : Nat), rank a j < m → j < a.l.length → a.long j ≤ rank a j + 1
  | 0, j, h, _ => by omega
  | m + 1, j, h, hj => by
    rw [long_eq hj]
    have : top ((before a j).map a.long) ≤ rank a j := by
      refine top_le fun x hx => ?_
      obtain ⟨i, hi, rfl⟩ := List.mem_map.mp hx
      obtain ⟨h1, h2⟩ := mem_before.mp hi
      have r := rank_lt h1 (next_ahead h2)
      have := long_le_rank m i (by omega) h1
      omega
    omega
theorem long_le {a : Now} {j : Nat} (hj : j < a.l.length) : a.long j ≤ a.l.length := by
  have := long_le_rank _ j (Nat.lt_succ_self _) hj
  have := rank_small hj
  omega
theorem longest_eq (a : Now) : a.longest = top (a.all.map a.long) := rfl
end La

set_option Elab.async false
/-! The order in which events are laid; one list alone is in it. -/
namespace La
open Kv413

theorem insert_mem {a : Now} {i x : Nat} : ∀ {l : List Nat}, x ∈ insert_ a i l ↔ x = i ∨ x ∈ l
  | [] => by
    show x ∈ [i] ↔ _
    simp
  | j :: l => by
    unfold insert_
    split
    · simp
    · rw [List.mem_cons, insert_mem (l := l), List.mem_cons]
      constructor
      · rintro (h | h | h)
        · exact .inr (.inl h)
        · exact .inl h
        · exact .inr (.inr h)
      · rintro (h | h | h)
        · exact .inr (.inl h)
        · exact .inl h
        · exact .inr (.inr h)
theorem insert_perm {a : Now} {i : Nat} : ∀ {l : List Nat}, (insert_ a i l).Perm (i :: l)
  | [] => List.Perm.refl _
  | j :: l => by
    unfold insert_
    split
    · exact List.Perm.refl _
    · exact (List.Perm.cons j (insert_perm (l := l))).trans (List.Perm.swap i j l)
theorem insert_pair {a : Now} {i : Nat} : ∀ {l : List Nat}, i ∉ l → l.Pairwise (Ahead a) → (insert_ a i l).Pairwise (Ahead a)
  | [], _, _ => List.pairwise_singleton _ _
  | j :: l, hn, hp => by
    rw [List.pairwise_cons] at hp
    unfold insert_
    split
    · rename_i c
      have c' : Ahead a i j := c
      refine List.pairwise_cons.mpr ⟨fun x hx => ?_, List.pairwise_cons.mpr hp⟩
      rcases List.mem_cons.mp hx with e | e
      · rw [e]; exact c'
      · exact c'.trans (hp.1 x e)
    · rename_i c
      have c' : ¬ Ahead a i j := c
      have hij : i ≠ j := fun e => hn (by rw [e]; exact List.mem_cons_self ..)
      have hji : Ahead a j i := (Ahead.total hij).resolve_left c'
      refine List.pairwise_cons.mpr ⟨fun x hx => ?_, insert_pair (fun h => hn (List.mem_cons_of_mem _ h)) hp.2⟩
      rcases insert_mem.mp hx with e | e
      · rw [e]; exact hji
      · exact hp.1 x e
theorem laid_fold {a : Now} : ∀ (l s : List Nat), l.Nodup → (∀ x ∈ l, x ∉ s) → s.Pairwise (Ahead a) → (l.foldl (fun s i => insert_ a i s) s).Pairwise (Ahead a) ∧ (l.foldl (fun s i => insert_ a i s) s).Perm (s ++ l)
  | [], s, _, _, hp => ⟨hp, by rw [List.append_nil]; exact List.Perm.refl _⟩
  | i :: l, s, hn, hd, hp => by
    rw [List.nodup_cons] at hn
    obtain ⟨h1, h2⟩ := laid_fold l (insert_ a i s) hn.2 (fun x hx hm => by
      rcases insert_mem.mp hm with e | e
      · subst e; exact hn.1 hx
      · exact hd x (List.mem_cons_of_mem _ hx) e) (insert_pair (hd i (List.mem_cons_self ..)) hp)
    refine ⟨h1, h2.trans ?_⟩
    refine (insert_perm.append_right l).trans ?_
    show (i :: (s ++ l)).Perm (s ++ i :: l)
    exact List.perm_middle.symm
theorem byLight_pair (a : Now) : a.byLight.Pairwise (Ahead a) := (laid_fold a.all [] List.nodup_range (fun _ _ h => by cases h) List.Pairwise.nil).1
theorem byLight_perm (a : Now) : a.byLight.Perm a.all := by
  have h := (laid_fold (a := a) a.all [] List.nodup_range (fun _ _ h => by cases h) List.Pairwise.nil).2
  exact h
/-- two lists of the same, both in a strict order, are one -/
theorem sorted_one {R : Nat → Nat → Prop} (hi : ∀ x, ¬ R x x) (ht : ∀ x y z, R x y → R y z → R x z) : ∀ {l m : List Nat}, l.Perm m → l.Pairwise R → m.Pairwise R → l = m
  | [], m, hp, _, _ => (List.Perm.nil_eq hp)
  | x :: l, [], hp, _, _ => by cases hp.length_eq
  | x :: l, y :: m, hp, h1, h2 => by
    rw [List.pairwise_cons] at h1 h2
    have e : x = y := by
      have hx : x ∈ y :: m := hp.subset (List.mem_cons_self ..)
      have hy : y ∈ x :: l := hp.symm.subset (List.mem_cons_self ..)
      rcases List.mem_cons.mp hx with e | hx
      · exact e
      · rcases List.mem_cons.mp hy with e | hy
        · exact e.symm
        · exact absurd (ht _ _ _ (h1.1 y hy) (h2.1 x hx)) (hi x)
    subst e
    rw [sorted_one hi ht (List.Perm.cons_inv hp) h1.2 h2.2]
theorem byLight_only {a : Now} {l : List Nat} (h1 : l.Perm a.all) (h2 : l.Pairwise (Ahead a)) : l = a.byLight :=
  sorted_one (fun _ => Ahead.irrefl) (fun _ _ _ => Ahead.trans) (h1.trans (byLight_perm a).symm) h2 (byLight_pair a)
end La

set_option Elab.async false
set_option autoImplicit false
/-! The clock: the least last one, then back, each time the least. Nothing of the program here. -/
namespace La
open Kv413

/-- the least number below n of which p is true -/
theorem find_least {n : Nat} {p : Nat → Bool} {i : Nat} (h : (List.range n).find? p = some i) : i < n ∧ p i = true ∧ ∀ k, k < i → p k = false := by
  have h1 := List.find?_some h
  have h2 := List.mem_range.mp (List.mem_of_find?_eq_some h)
  refine ⟨h2, h1, fun k hk => ?_⟩
  rw [List.find?_range_eq_some] at h
  have := h.2.2 k hk
  cases e : p k with
  | false => rfl
  | true =>
    rw [e] at this
    cases this
theorem find_only {n : Nat} {p : Nat → Bool} {i : Nat} (h1 : i < n) (h2 : p i = true) (h3 : ∀ k, k < i → p k = false) : (List.range n).find? p = some i := by
  rw [List.find?_range_eq_some]
  exact ⟨h2, List.mem_range.mpr h1, fun k hk => by rw [h3 k hk]; rfl⟩
theorem find_not {n : Nat} {p : Nat → Bool} (h : (List.range n).find? p = none) : ∀ k, k < n → p k = false := by
  intro k hk
  have := List.find?_eq_none.mp h k (List.mem_range.mpr hk)
  cases e : p k with
  | false => rfl
  | true => exact absurd e this
theorem find_no {n : Nat} {p : Nat → Bool} (h : ∀ k, k < n → p k = false) : (List.range n).find? p = none := by
  rw [List.find?_eq_none]
  intro k hk
  rw [h k (List.mem_range.mp hk)]
  decide
/-- from which the row goes on to j -/
def backOf (a : Now) (j : Nat) : Option Nat := a.all.find? fun i => a.next i j && a.long i + 1 == a.long j
theorem backOf_none {a : Now} {j : Nat} (hj : j < a.l.length) : backOf a j = none ↔ a.long j = 1 := by
  constructor
  · intro h
    have hn := find_not h
    rcases Nat.lt_or_ge 1 (a.long j) with h1 | h1
    · obtain ⟨i, hi, h2, h3⟩ := long_back hj h1
      have := hn i hi
      rw [h2, h3, beq_self_eq_true] at this
      cases this
    · have := long_pos hj
      omega
  · intro h
    refine find_no fun k hk => ?_
    have := long_pos hk
    have e : (a.long k + 1 == a.long j) = false := by
      rw [beq_eq_false_iff_ne]
      omega
    rw [e, Bool.and_false]
theorem backOf_some {a : Now} {i j : Nat} (h : backOf a j = some i) : i < a.l.length ∧ a.next i j = true ∧ a.long i + 1 = a.long j := by
  obtain ⟨h1, h2, _⟩ := find_least h
  rw [Bool.and_eq_true, beq_iff_eq] at h2
  exact ⟨h1, h2.1, h2.2⟩
theorem chain_zero (a : Now) (j : Nat) : a.chain 0 j = [j] := rfl
theorem chain_succ (a : Now) (f j : Nat) : a.chain (f + 1) j = match backOf a j with
  | none => [j]
  | some i => a.chain f i ++ [j] := rfl
/-- as many turns as are wanted are enough -/
theorem chain_stay {a : Now} : ∀ (f j : Nat), j < a.l.length → a.long j ≤ f + 1 → a.chain (f + 1) j = a.chain f j
  | 0, j, hj, h => by
    have := long_pos hj
    rw [chain_succ, (backOf_none hj).mpr (by omega)]
    rfl
  | f + 1, j, hj, h => by
    rw [chain_succ, chain_succ a f]
    cases e : backOf a j with
    | none => rfl
    | some i =>
      obtain ⟨h1, _, h3⟩ := backOf_some e
      show a.chain (f + 1) i ++ [j] = a.chain f i ++ [j]
      rw [chain_stay f i h1 (by omega)]
/-- the row that is told of an event -/
def rowTo (a : Now) (j : Nat) : List Nat := a.chain a.l.length j
theorem chain_enough {a : Now} {j : Nat} (hj : j < a.l.length) : ∀ f, a.long j ≤ f + 1 → ∀ d, a.chain (f + d) j = a.chain f j
  | f, h, 0 => rfl
  | f, h, d + 1 => by
    have : f + (d + 1) = (f + d) + 1 := rfl
    rw [this, chain_stay (f + d) j hj (by omega), chain_enough hj f h d]
theorem rowTo_one {a : Now} {j : Nat} (hj : j < a.l.length) (h : a.long j = 1) : rowTo a j = [j] := by
  unfold rowTo
  have : a.l.length = 0 + a.l.length := by omega
  rw [this, chain_enough hj 0 (by omega)]
  rfl
theorem rowTo_more {a : Now} {i j : Nat} (hj : j < a.l.length) (h : backOf a j = some i) : rowTo a j = rowTo a i ++ [j] := by
  obtain ⟨h1, _, h3⟩ := backOf_some h
  have hl := long_le hj
  unfold rowTo
  cases e : a.l.length with
  | zero => omega
  | succ m =>
    rw [chain_succ, h]
    show a.chain m i ++ [j] = a.chain (m + 1) i ++ [j]
    rw [chain_stay m i h1 (by omega)]
theorem rowTo_len {a : Now} : ∀ (m j : Nat), a.long j ≤ m → j < a.l.length → (rowTo a j).length = a.long j
  | 0, j, h, hj => by
    have := long_pos hj
    omega
  | m + 1, j, h, hj => by
    cases e : backOf a j with
    | none =>
      have h1 := (backOf_none hj).mp e
      rw [rowTo_one hj h1, h1]
      rfl
    | some i =>
      obtain ⟨h1, _, h3⟩ := backOf_some e
      rw [rowTo_more hj e, List.length_append, rowTo_len m i (by omega) h1]
      show a.long i + 1 = _
      exact h3
/-- the clock: without events nothing; else the row to the least event whose row is the longest -/
theorem clock_nil {a : Now} (h : a.l = []) : a.clock = [] := by
  unfold Now.clock Now.all
  rw [h]
  rfl
theorem longest_at {a : Now} (h : a.l ≠ []) : ∃ j, j < a.l.length ∧ a.long j = a.longest := by
  rw [longest_eq]
  rcases top_mem (l := a.all.map a.long) with e | e
  · have : a.all.length = 0 := by
      have := congrArg List.length e
      rw [List.length_map] at this
      exact this
    unfold Now.all at this
    rw [List.length_range] at this
    exact absurd (List.eq_nil_of_length_eq_zero this) h
  · obtain ⟨j, hj, ej⟩ := List.mem_map.mp e
    exact ⟨j, mem_all.mp hj, ej⟩
theorem long_le_longest {a : Now} {j : Nat} (hj : j < a.l.length) : a.long j ≤ a.longest := by
  rw [longest_eq]
  exact le_top (List.mem_map.mpr ⟨j, mem_all.mpr hj, rfl⟩)
theorem clock_at {a : Now} {j : Nat} (hj : j < a.l.length) (h1 : a.long j = a.longest) (h2 : ∀ k, k < j → a.long k ≠ a.longest) : a.clock = rowTo a j := by
  have e : a.all.find? (fun j => a.long j == a.longest) = some j := find_only hj (beq_iff_eq.mpr h1) fun k hk => beq_eq_false_iff_ne.mpr (h2 k hk)
  unfold Now.clock
  rw [e]
  rfl
end La

set_option Elab.async false
set_option autoImplicit false
/-! The most events of which none can have been heard of at another: by sets. Nothing of the program here. -/
namespace La
open Kv413

theorem mem_subsets {s : List Nat} : ∀ {l : List Nat}, s ∈ subsets l ↔ s.Sublist l
  | [] => by
    show s ∈ [[]] ↔ _
    rw [List.mem_singleton, List.sublist_nil]
  | x :: l => by
    show s ∈ subsets l ++ (subsets l).map (fun s => x :: s) ↔ _
    rw [List.mem_append, mem_subsets (l := l), List.mem_map]
    constructor
    · rintro (h | ⟨t, ht, rfl⟩)
      · exact h.cons x
      · exact (mem_subsets.mp ht).cons_cons x
    · intro h
      cases h with
      | cons _ h => exact .inl h
      | cons_cons _ h => exact .inr ⟨_, mem_subsets.mpr h, rfl⟩
theorem apart_iff {a : Now} {s : List Nat} : a.apart s = true ↔ ∀ i ∈ s, ∀ j ∈ s, i = j ∨ heard (a.at_ i) (a.at_ j) = false := by
  unfold Now.apart
  rw [List.all_eq_true]
  constructor
  · intro h i hi j hj
    have h1 := List.all_eq_true.mp (h i hi) j hj
    rw [Bool.or_eq_true, beq_iff_eq, Bool.not_eq_true'] at h1
    exact h1
  · intro h i hi
    rw [List.all_eq_true]
    intro j hj
    rw [Bool.or_eq_true, beq_iff_eq, Bool.not_eq_true']
    exact h i hi j hj
theorem most_eq (a : Now) : a.most = top (((subsets a.all).filter a.apart).map List.length) := rfl
theorem most_ge {a : Now} {s : List Nat} (h1 : s.Sublist a.all) (h2 : a.apart s = true) : s.length ≤ a.most := by
  rw [most_eq]
  exact le_top (List.mem_map.mpr ⟨s, List.mem_filter.mpr ⟨mem_subsets.mpr h1, h2⟩, rfl⟩)
theorem most_at (a : Now) : ∃ s : List Nat, s.Sublist a.all ∧ a.apart s = true ∧ s.length = a.most := by
  rw [most_eq]
  rcases top_mem (l := ((subsets a.all).filter a.apart).map List.length) with e | e
  · have m : ([] : List Nat) ∈ (subsets a.all).filter a.apart := List.mem_filter.mpr ⟨mem_subsets.mpr (List.nil_sublist _), rfl⟩
    have m2 : 0 ∈ ((subsets a.all).filter a.apart).map List.length := List.mem_map.mpr ⟨[], m, rfl⟩
    rw [e] at m2
    cases m2
  · obtain ⟨s, hs, el⟩ := List.mem_map.mp e
    obtain ⟨h1, h2⟩ := List.mem_filter.mp hs
    exact ⟨s, mem_subsets.mp h1, h2, el⟩
theorem most_le {a : Now} {n : Nat} (h : ∀ s : List Nat, s.Sublist a.all → a.apart s = true → s.length ≤ n) : a.most ≤ n := by
  obtain ⟨s, h1, h2, h3⟩ := most_at a
  rw [← h3]
  exact h s h1 h2
end La

set_option Elab.async false
set_option linter.all false
set_option autoImplicit false
set_option maxRecDepth 100000
set_option maxHeartbeats 4000000
/-! Orders by keys against the specification's rows, clocks and sets. Nothing of the program here. -/
namespace La
open Kv413 Lk

/-! ### the order by time, then number -/
def kyT (a : Now) (i : Nat) : List Int := [(a.at_ i).t, (i : Int)]
theorem next_lex {a : Now} {k i : Nat} (h : a.next k i = true) : lexL (kyT a k) (kyT a i) = true := by
  obtain ⟨h1, h2, h3⟩ := next_iff.mp h
  obtain ⟨hu, hv⟩ := heard_iff.mp h2
  unfold Event.u at hu
  unfold Event.v at hv
  show (if (a.at_ k).t = (a.at_ i).t then (if (k : Int) = (i : Int) then false else decide ((k : Int) < (i : Int))) else decide ((a.at_ k).t < (a.at_ i).t)) = true
  by_cases e : (a.at_ k).t = (a.at_ i).t
  · have es : a.at_ k = a.at_ i := by
      refine event_ext ?_ ?_
      · unfold Event.u
        omega
      · unfold Event.v
        omega
    have hk : k < i := by
      rcases h3 with h3 | h3
      · exact absurd es h3
      · exact h3
    rw [if_pos e, if_neg (by omega)]
    exact decide_eq_true (by omega)
  · rw [if_neg e]
    exact decide_eq_true (by omega)
theorem ord_before {a : Now} {ord : List Nat} {m i k : Nat} (o : Ord (kyT a) a.l.length ord) (hm : ord[m]? = some i) (hk : k < a.l.length) (hn : a.next k i = true) : k ∈ ord.take m := by
  have hmem : k ∈ ord := o.perm.mem_iff.mpr (List.mem_range.mpr hk)
  obtain ⟨m', h'⟩ := List.mem_iff_getElem?.mp hmem
  have hl := next_lex hn
  rcases Nat.lt_trichotomy m' m with h | h | h
  · refine List.mem_iff_getElem?.mpr ⟨m', ?_⟩
    rw [List.getElem?_take_of_lt h]
    exact h'
  · rw [h, hm] at h'
    have e : i = k := Option.some.inj h'
    exact absurd e.symm (next_iff.mp hn).1
  · obtain ⟨l1, e1⟩ := List.getElem?_eq_some_iff.mp hm
    obtain ⟨l2, e2⟩ := List.getElem?_eq_some_iff.mp h'
    have q := List.pairwise_iff_getElem.mp o.srt m m' l1 l2 h
    rw [e1, e2, hl] at q
    cases q
/-- of each event what is known behind so many turns -/
def lens (a : Now) (ord : List Nat) (m : Nat) : List Nat := (List.range a.l.length).map fun j => if j ∈ ord.take m then a.long j else 0
theorem lens_len (a : Now) (ord : List Nat) (m : Nat) : (lens a ord m).length = a.l.length := by
  unfold lens
  rw [List.length_map, List.length_range]
theorem lens_at {a : Now} {ord : List Nat} {m j : Nat} (h : j < a.l.length) : (lens a ord m)[j]? = some (if j ∈ ord.take m then a.long j else 0) := by
  unfold lens
  rw [List.getElem?_map, List.getElem?_range h]
  rfl
theorem lens_zero (a : Now) (ord : List Nat) : lens a ord 0 = List.replicate a.l.length 0 := by
  refine List.ext_getElem? fun j => ?_
  by_cases h : j < a.l.length
  · rw [lens_at h, List.getElem?_replicate, if_pos h, List.take_zero, if_neg (fun z => by cases z)]
  · rw [List.getElem?_eq_none (by rw [lens_len]; omega), List.getElem?_eq_none (by rw [List.length_replicate]; omega)]
theorem lens_next {a : Now} {ord : List Nat} {m i : Nat} (hm : ord[m]? = some i) (hi : i < a.l.length) : lens a ord (m + 1) = (lens a ord m).set i (a.long i) := by
  have tk : ord.take (m + 1) = ord.take m ++ [i] := by
    rw [List.take_succ, hm]
    rfl
  refine List.ext_getElem? fun j => ?_
  by_cases h : j < a.l.length
  · rw [lens_at h, tk]
    by_cases e : j = i
    · rw [e, List.getElem?_set_self (by rw [lens_len]; exact hi), if_pos (List.mem_append_right _ (List.mem_singleton.mpr rfl))]
    · rw [List.getElem?_set_ne (Ne.symm e), lens_at h]
      congr 1
      by_cases hj : j ∈ ord.take m
      · rw [if_pos (List.mem_append_left _ hj), if_pos hj]
      · rw [if_neg hj, if_neg]
        intro z
        rcases List.mem_append.mp z with z | z
        · exact hj z
        · exact e (List.mem_singleton.mp z)
  · rw [List.getElem?_eq_none (by rw [lens_len]; omega), List.getElem?_eq_none (by rw [List.length_set, lens_len]; omega)]
theorem lens_done {a : Now} {ord : List Nat} (o : Ord (kyT a) a.l.length ord) : lens a ord ord.length = (List.range a.l.length).map a.long := by
  unfold lens
  refine List.map_congr_left fun j hj => ?_
  rw [List.take_length, if_pos (o.perm.mem_iff.mpr hj)]
/-- the next one's -/
theorem lens_turn {a : Now} {ord : List Nat} {m i : Nat} (o : Ord (kyT a) a.l.length ord) (hm : ord[m]? = some i) (hi : i < a.l.length) : 1 + top (((List.range a.l.length).filter fun k => a.next k i).map fun k => (lens a ord m).getD k 0) = a.long i := by
  rw [long_eq hi]
  have e : ((List.range a.l.length).filter fun k => a.next k i).map (fun k => (lens a ord m).getD k 0) = (before a i).map a.long := by
    unfold before Now.all
    refine List.map_congr_left fun k hk => ?_
    obtain ⟨h1, h2⟩ := List.mem_filter.mp hk
    have h1' := List.mem_range.mp h1
    rw [List.getD_eq_getElem?_getD, lens_at h1', if_pos (ord_before o hm h1' h2)]
    rfl
  rw [e]
  omega

/-! ### the order by light -/
def kyL (a : Now) (i : Nat) : List Int := [(a.at_ i).u, (a.at_ i).v, (i : Int)]
theorem kyL_ahead {a : Now} {i j : Nat} (hne : i ≠ j) (h : lexL (kyL a j) (kyL a i) = false) : Ahead a i j := by
  have h' : (if (a.at_ j).u = (a.at_ i).u then (if (a.at_ j).v = (a.at_ i).v then (if (j : Int) = (i : Int) then false else decide ((j : Int) < (i : Int))) else decide ((a.at_ j).v < (a.at_ i).v)) else decide ((a.at_ j).u < (a.at_ i).u)) = false := h
  unfold Ahead
  by_cases e1 : (a.at_ j).u = (a.at_ i).u
  · rw [if_pos e1] at h'
    by_cases e2 : (a.at_ j).v = (a.at_ i).v
    · rw [if_pos e2, if_neg (by omega)] at h'
      have := of_decide_eq_false h'
      omega
    · rw [if_neg e2] at h'
      have := of_decide_eq_false h'
      omega
  · rw [if_neg e1] at h'
    have := of_decide_eq_false h'
    omega
theorem nodup_perm_range {n : Nat} {l : List Nat} (h : l.Perm (List.range n)) : l.Nodup := h.nodup_iff.mpr List.nodup_range
theorem ord_byLight {a : Now} {ord : List Nat} (o : Ord (kyL a) a.l.length ord) : ord = a.byLight := by
  refine byLight_only o.perm ?_
  have nd := nodup_perm_range o.perm
  refine List.Pairwise.imp₂ ?_ o.srt nd
  intro i j h hne
  exact kyL_ahead hne h
end La

set_option Elab.async false
set_option linter.all false
set_option autoImplicit false
set_option maxRecDepth 100000
set_option maxHeartbeats 4000000
/-! The most events apart: by chains along the places. Nothing of the program here. -/
namespace La
open Kv413 Lk

/-- so far to the right that neither hears of the other -/
def Below (e f : Event) : Prop := (if f.t - e.t < 0 then -(f.t - e.t) else f.t - e.t) < f.x - e.x
instance (e f : Event) : Decidable (Below e f) := by unfold Below; exact inferInstance
theorem below_iff {e f : Event} : Below e f ↔ f.u < e.u ∧ e.v < f.v := by
  unfold Below Event.u Event.v
  split <;> omega
theorem Below.trans {e f g : Event} (h1 : Below e f) (h2 : Below f g) : Below e g := by
  rw [below_iff] at *
  omega
theorem Below.apart {e f : Event} (h : Below e f) : heard e f = false ∧ heard f e = false := by
  rw [below_iff] at h
  constructor
  · cases z : heard e f with
    | false => rfl
    | true =>
      have := heard_iff.mp z
      omega
  · cases z : heard f e with
    | false => rfl
    | true =>
      have := heard_iff.mp z
      omega
theorem below_of {e f : Event} (hx : e.x ≤ f.x) (h1 : heard e f = false) (h2 : heard f e = false) : Below e f := by
  rw [below_iff]
  have n1 : ¬ (e.u ≤ f.u ∧ e.v ≤ f.v) := fun z => by
    rw [heard_iff.mpr z] at h1
    cases h1
  have n2 : ¬ (f.u ≤ e.u ∧ f.v ≤ e.v) := fun z => by
    rw [heard_iff.mpr z] at h2
    cases h2
  unfold Event.u Event.v at *
  omega
/-! ### chains of places in a row of events -/
section
variable (ev : Nat → Event)
def Chain (c : List Nat) : Prop := c.Pairwise fun q p => q < p ∧ Below (ev q) (ev p)
/-- cnt p: the most of a chain that ends at p -/
structure Counts (n : Nat) (cnt : Nat → Nat) : Prop where
  eq : ∀ p, p < n → cnt p = 1 + top (((List.range p).filter fun q => decide (Below (ev q) (ev p))).map cnt)
end
variable {ev : Nat → Event}
theorem counts_le {n : Nat} {cnt : Nat → Nat} (C : Counts ev n cnt) : ∀ (m p : Nat) (c : List Nat), p < n → p ≤ m → Chain ev (c ++ [p]) → c.length + 1 ≤ cnt p := by
  intro m
  induction m with
  | zero =>
    intro p c hp hm hc
    have h0 : c = [] := by
      cases c with
      | nil => rfl
      | cons q r =>
        have := (List.pairwise_append.mp hc).2.2 q (List.mem_cons_self ..) p (List.mem_singleton.mpr rfl)
        omega
    rw [h0, C.eq p hp]
    show 0 + 1 ≤ _
    omega
  | succ m ih =>
    intro p c hp hm hc
    rw [C.eq p hp]
    rcases List.eq_nil_or_concat c with h0 | ⟨c', q, h0⟩
    · rw [h0]
      show 0 + 1 ≤ _
      omega
    · rw [List.concat_eq_append] at h0
      subst h0
      obtain ⟨h1, _, h3⟩ := List.pairwise_append.mp hc
      obtain ⟨hlt, hb⟩ := h3 q (List.mem_append_right _ (List.mem_singleton.mpr rfl)) p (List.mem_singleton.mpr rfl)
      have := ih q c' (by omega) (by omega) h1
      have h4 : cnt q ≤ top (((List.range p).filter fun q => decide (Below (ev q) (ev p))).map cnt) := le_top (List.mem_map.mpr ⟨q, List.mem_filter.mpr ⟨List.mem_range.mpr hlt, decide_eq_true hb⟩, rfl⟩)
      rw [List.length_append]
      show c'.length + 1 + 1 ≤ _
      omega
theorem counts_at {n : Nat} {cnt : Nat → Nat} (C : Counts ev n cnt) : ∀ (m p : Nat), p < n → p ≤ m → ∃ c : List Nat, Chain ev (c ++ [p]) ∧ c.length + 1 = cnt p := by
  intro m
  induction m with
  | zero =>
    intro p hp hm
    refine ⟨[], List.pairwise_singleton _ _, ?_⟩
    have h0 : p = 0 := by omega
    rw [C.eq p hp, h0]
    rfl
  | succ m ih =>
    intro p hp hm
    rcases top_mem (l := ((List.range p).filter fun q => decide (Below (ev q) (ev p))).map cnt) with h | h
    · refine ⟨[], List.pairwise_singleton _ _, ?_⟩
      rw [C.eq p hp, h]
      rfl
    · obtain ⟨q, hq, e⟩ := List.mem_map.mp h
      obtain ⟨h1, h2⟩ := List.mem_filter.mp hq
      have hlt := List.mem_range.mp h1
      have hb := of_decide_eq_true h2
      obtain ⟨c, hc, hl⟩ := ih q (by omega) (by omega)
      refine ⟨c ++ [q], ?_, ?_⟩
      · refine List.pairwise_append.mpr ⟨hc, List.pairwise_singleton _ _, fun x hx y hy => ?_⟩
        rw [List.mem_singleton.mp hy]
        rcases List.mem_append.mp hx with hx | hx
        · obtain ⟨a1, a2⟩ := (List.pairwise_append.mp hc).2.2 x hx q (List.mem_singleton.mpr rfl)
          exact ⟨by omega, a2.trans hb⟩
        · rw [List.mem_singleton.mp hx]
          exact ⟨hlt, hb⟩
      · rw [C.eq p hp, ← e, List.length_append]
        show c.length + 1 + 1 = _
        omega
theorem nodup_len : ∀ (l D : List Nat), l.Nodup → (∀ x ∈ l, x ∈ D) → l.length ≤ D.length
  | [], _, _, _ => Nat.zero_le _
  | x :: l, D, h, hs => by
    obtain ⟨h1, h2⟩ := List.nodup_cons.mp h
    have hx := hs x (List.mem_cons_self ..)
    have := nodup_len l (D.erase x) h2 fun y hy => (List.mem_erase_of_ne (fun z => h1 (by rw [← z]; exact hy))).mpr (hs y (List.mem_cons_of_mem _ hy))
    rw [List.length_erase_of_mem hx] at this
    have hp : 0 < D.length := List.length_pos_of_mem hx
    rw [List.length_cons]
    omega
/-- the order by place -/
def kyX (a : Now) (i : Nat) : List Int := [(a.at_ i).x]
theorem kyX_le {a : Now} {i j : Nat} (h : lexL (kyX a j) (kyX a i) = false) : (a.at_ i).x ≤ (a.at_ j).x := by
  have h' : (if (a.at_ j).x = (a.at_ i).x then false else decide ((a.at_ j).x < (a.at_ i).x)) = false := h
  by_cases e : (a.at_ j).x = (a.at_ i).x
  · omega
  · rw [if_neg e] at h'
    have := of_decide_eq_false h'
    omega
theorem most_counts {a : Now} {ord : List Nat} {cnt : Nat → Nat} (o : Ord (kyX a) a.l.length ord) (C : Counts (fun p => a.at_ (ord.getD p 0)) a.l.length cnt) : top ((List.range a.l.length).map cnt) = a.most := by
  have hol : ord.length = a.l.length := by rw [o.perm.length_eq, List.length_range]
  have nd := nodup_perm_range o.perm
  have hget : ∀ p, p < a.l.length → ∃ h : p < ord.length, ord.getD p 0 = ord[p] := fun p hp => by
    have h : p < ord.length := by omega
    exact ⟨h, by rw [List.getD_eq_getElem?_getD, List.getElem?_eq_getElem h]; rfl⟩
  apply Nat.le_antisymm
  · refine top_le fun x hx => ?_
    obtain ⟨p, hp, rfl⟩ := List.mem_map.mp hx
    have hp := List.mem_range.mp hp
    obtain ⟨c, hc, hl⟩ := counts_at C p p hp (Nat.le_refl _)
    have hlt : ∀ q ∈ c ++ [p], q < a.l.length := fun q hq => by
      rcases List.mem_append.mp hq with hq | hq
      · have := (List.pairwise_append.mp hc).2.2 q hq p (List.mem_singleton.mpr rfl)
        omega
      · rw [List.mem_singleton.mp hq]
        exact hp
    -- the events of the chain, as a part of all
    have hs := (List.filter_sublist (l := a.all) (p := fun i => decide (i ∈ (c ++ [p]).map fun q => ord.getD q 0)))
    have hmem : ∀ i, i ∈ a.all.filter (fun i => decide (i ∈ (c ++ [p]).map fun q => ord.getD q 0)) ↔ i < a.l.length ∧ i ∈ (c ++ [p]).map fun q => ord.getD q 0 := fun i => by
      rw [List.mem_filter, mem_all, decide_eq_true_iff]
    have hap : a.apart (a.all.filter fun i => decide (i ∈ (c ++ [p]).map fun q => ord.getD q 0)) = true := by
      rw [apart_iff]
      intro i hi j hj
      obtain ⟨_, hi⟩ := (hmem i).mp hi
      obtain ⟨_, hj⟩ := (hmem j).mp hj
      obtain ⟨q, hq, rfl⟩ := List.mem_map.mp hi
      obtain ⟨r, hr, rfl⟩ := List.mem_map.mp hj
      rcases Nat.lt_trichotomy q r with h | h | h
      · refine .inr ?_
        obtain ⟨x, hx, ex⟩ := List.getElem_of_mem hq
        obtain ⟨y, hy, ey⟩ := List.getElem_of_mem hr
        have hxy : x < y := by
          rcases Nat.lt_trichotomy x y with g | g | g
          · exact g
          · subst g
            omega
          · have := (List.pairwise_iff_getElem.mp hc y x hy hx g).1
            omega
        have hb := (List.pairwise_iff_getElem.mp hc x y hx hy hxy).2
        rw [ex, ey] at hb
        exact hb.apart.1
      · exact .inl (by rw [h])
      · refine .inr ?_
        obtain ⟨x, hx, ex⟩ := List.getElem_of_mem hq
        obtain ⟨y, hy, ey⟩ := List.getElem_of_mem hr
        have hxy : y < x := by
          rcases Nat.lt_trichotomy x y with g | g | g
          · have := (List.pairwise_iff_getElem.mp hc x y hx hy g).1
            omega
          · subst g
            omega
          · exact g
        have hb := (List.pairwise_iff_getElem.mp hc y x hy hx hxy).2
        rw [ex, ey] at hb
        exact hb.apart.2
    have h1 := most_ge hs hap
    have h2 : ((c ++ [p]).map fun q => ord.getD q 0).length ≤ (a.all.filter fun i => decide (i ∈ (c ++ [p]).map fun q => ord.getD q 0)).length := by
      refine nodup_len _ _ ?_ fun i hi => (hmem i).mpr ⟨?_, hi⟩
      · rw [List.nodup_iff_pairwise_ne, List.pairwise_map]
        refine hc.imp_of_mem fun {q r} hq hr h => ?_
        obtain ⟨l1, e1⟩ := hget q (hlt q hq)
        obtain ⟨l2, e2⟩ := hget r (hlt r hr)
        show ord.getD q 0 ≠ ord.getD r 0
        rw [e1, e2]
        intro z
        have := (List.getElem_inj nd).mp z
        omega
      · obtain ⟨q, hq, rfl⟩ := List.mem_map.mp hi
        obtain ⟨l1, e1⟩ := hget q (hlt q hq)
        show ord.getD q 0 < _
        rw [e1]
        exact o.lt (List.getElem_mem l1)
    rw [List.length_map, List.length_append] at h2
    have h3 : c.length + 1 ≤ a.most := Nat.le_trans h2 h1
    omega
  · refine most_le fun s hs hap => ?_
    rw [apart_iff] at hap
    -- the places of the events of s
    let P := (List.range a.l.length).filter fun p => decide (ord.getD p 0 ∈ s)
    have hP : ∀ p, p ∈ P ↔ p < a.l.length ∧ ord.getD p 0 ∈ s := fun p => by
      rw [List.mem_filter, List.mem_range, decide_eq_true_iff]
    have hch : Chain (fun p => a.at_ (ord.getD p 0)) P := by
      have hr : (List.range a.l.length).Pairwise (· < ·) := List.pairwise_lt_range
      refine (hr.filter _).imp_of_mem fun {q r} hq hr h => ⟨h, ?_⟩
      obtain ⟨q1, q2⟩ := (hP q).mp hq
      obtain ⟨r1, r2⟩ := (hP r).mp hr
      obtain ⟨l1, e1⟩ := hget q q1
      obtain ⟨l2, e2⟩ := hget r r1
      have hne : ord.getD q 0 ≠ ord.getD r 0 := by
        rw [e1, e2]
        intro z
        have := (List.getElem_inj nd).mp z
        omega
      have hx := kyX_le (List.pairwise_iff_getElem.mp o.srt q r l1 l2 h)
      rw [← e1, ← e2] at hx
      refine below_of hx ?_ ?_
      · rcases hap _ q2 _ r2 with z | z
        · exact absurd z hne
        · exact z
      · rcases hap _ r2 _ q2 with z | z
        · exact absurd z.symm hne
        · exact z
    have hlen : s.length ≤ P.length := by
      have h1 : s.length ≤ (P.map fun p => ord.getD p 0).length := by
        refine nodup_len _ _ (hs.nodup List.nodup_range) fun i hi => ?_
        have hi' : i ∈ a.all := hs.subset hi
        have hio : i ∈ ord := o.perm.mem_iff.mpr hi'
        obtain ⟨p, hp, ep⟩ := List.getElem_of_mem hio
        have hp' : p < a.l.length := by omega
        have eg : ord.getD p 0 = i := by
          obtain ⟨_, e⟩ := hget p hp'
          rw [e]
          exact ep
        exact List.mem_map.mpr ⟨p, (hP p).mpr ⟨hp', by rw [eg]; exact hi⟩, eg⟩
      rw [List.length_map] at h1
      exact h1
    rcases List.eq_nil_or_concat P with h0 | ⟨c, p, h0⟩
    · rw [h0] at hlen
      exact Nat.le_trans hlen (Nat.zero_le _)
    · rw [List.concat_eq_append] at h0
      rw [h0] at hch hlen
      have hp : p ∈ P := by
        rw [h0]
        exact List.mem_append_right _ (List.mem_singleton.mpr rfl)
      have hp' := ((hP p).mp hp).1
      have := counts_le C p p c hp' (Nat.le_refl _) hch
      have h4 : cnt p ≤ top ((List.range a.l.length).map cnt) := le_top (List.mem_map.mpr ⟨p, List.mem_range.mpr hp', rfl⟩)
      rw [List.length_append] at hlen
      have h5 : s.length ≤ c.length + 1 := hlen
      omega
end La

set_option Elab.async false
set_option linter.all false
set_option autoImplicit false
set_option maxRecDepth 100000
set_option maxHeartbeats 4000000
/-! To which clock an event goes. Nothing of the program here. -/
namespace La
open Kv413
/-- behind so many turns -/
def takeF (lasts : List Int) (own : Int) : Nat → Option Nat
  | 0 => none
  | m + 1 => if lasts.getD m 0 ≤ own ∧ (takeF lasts own m = none ∨ lasts.getD ((takeF lasts own m).getD 0) 0 < lasts.getD m 0) then some m else takeF lasts own m
theorem takeF_lt (lasts : List Int) (own : Int) : ∀ {m k : Nat}, takeF lasts own m = some k → k < m
  | 0, k, h => by cases h
  | m + 1, k, h => by
    unfold takeF at h
    split at h
    · have := Option.some.inj h
      omega
    · have := takeF_lt lasts own h
      omega
def lastV (a : Now) (q : List Nat) : Int := (a.at_ (q.getLast?.getD 0)).v
def stepP (a : Now) : Option (Int × Nat) → List Nat × Nat → Option (Int × Nat) := fun b q =>
  let w := (a.at_ (q.1.getLast?.getD 0)).v
  match b with
  | none => some (w, q.2)
  | some z => if z.1 < w then some (w, q.2) else b
theorem put_eq (a : Now) (c : List (List Nat)) (i : Nat) : a.put c i = match ((c.zipIdx.filter fun q => decide (lastV a q.1 ≤ (a.at_ i).v)).foldl (stepP a) none) with
  | none => c ++ [[i]]
  | some z => c.set z.2 (c.getD z.2 [] ++ [i]) := rfl
theorem take_fold (a : Now) (c : List (List Nat)) (own : Int) : ∀ m, m ≤ c.length → ((c.zipIdx.take m).filter fun q => decide (lastV a q.1 ≤ own)).foldl (stepP a) none = (takeF (c.map (lastV a)) own m).map fun k => ((c.map (lastV a)).getD k 0, k)
  | 0, _ => rfl
  | m + 1, h => by
    have hm : m < c.length := h
    have e1 : c.zipIdx.take (m + 1) = c.zipIdx.take m ++ [(c[m], m)] := by
      rw [List.take_succ, List.getElem?_zipIdx, List.getElem?_eq_getElem hm]
      show _ ++ [(c[m], 0 + m)] = _
      rw [Nat.zero_add]
    have ew : (c.map (lastV a)).getD m 0 = lastV a c[m] := by
      rw [List.getD_eq_getElem?_getD, List.getElem?_map, List.getElem?_eq_getElem hm]
      rfl
    rw [e1, List.filter_append, List.foldl_append, take_fold a c own m (Nat.le_of_lt hm)]
    have et : takeF (c.map (lastV a)) own (m + 1) = if (c.map (lastV a)).getD m 0 ≤ own ∧ (takeF (c.map (lastV a)) own m = none ∨ (c.map (lastV a)).getD ((takeF (c.map (lastV a)) own m).getD 0) 0 < (c.map (lastV a)).getD m 0) then some m else takeF (c.map (lastV a)) own m := rfl
    rw [et, ew]
    by_cases h1 : lastV a c[m] ≤ own
    · rw [List.filter_cons, if_pos (decide_eq_true h1)]
      cases ht : takeF (c.map (lastV a)) own m with
      | none =>
        rw [if_pos ⟨h1, .inl rfl⟩]
        show some (lastV a c[m], m) = some ((c.map (lastV a)).getD m 0, m)
        rw [ew]
      | some k =>
        show (if (c.map (lastV a)).getD k 0 < lastV a c[m] then some (lastV a c[m], m) else some ((c.map (lastV a)).getD k 0, k)) = _
        by_cases h2 : (c.map (lastV a)).getD k 0 < lastV a c[m]
        · rw [if_pos h2, if_pos ⟨h1, .inr h2⟩]
          show some (lastV a c[m], m) = some ((c.map (lastV a)).getD m 0, m)
          rw [ew]
        · rw [if_neg h2, if_neg (fun z => by
            rcases z.2 with z | z
            · cases z
            · exact h2 z)]
          rfl
    · rw [List.filter_cons, if_neg (by rw [decide_eq_false h1]; decide), if_neg (fun z => h1 z.1)]
      rfl
theorem put_take (a : Now) (c : List (List Nat)) (i : Nat) : a.put c i = match takeF (c.map (lastV a)) (a.at_ i).v c.length with
  | none => c ++ [[i]]
  | some k => c.set k (c.getD k [] ++ [i]) := by
  have h := take_fold a c (a.at_ i).v c.length (Nat.le_refl _)
  have e : c.zipIdx.take c.length = c.zipIdx := List.take_of_length_le (by rw [List.length_zipIdx]; exact Nat.le_refl _)
  rw [e] at h
  rw [put_eq, h]
  cases takeF (c.map (lastV a)) (a.at_ i).v c.length <;> rfl
/-- clocks as they come about -/
structure Laid (n m : Nat) (c : List (List Nat)) : Prop where
  sum : c.flatten.length = m
  few : c.length ≤ m
  full : ∀ q ∈ c, q ≠ []
  lt : ∀ q ∈ c, ∀ x ∈ q, x < n
theorem flatten_set : ∀ (c : List (List Nat)) (k i : Nat), k < c.length → (c.set k (c.getD k [] ++ [i])).flatten.length = c.flatten.length + 1
  | [], k, _, h => by simp at h
  | q :: c, 0, i, _ => by
    show ((q ++ [i]) :: c).flatten.length = _
    rw [List.flatten_cons, List.flatten_cons, List.length_append, List.length_append, List.length_append]
    show q.length + 1 + _ = _
    omega
  | q :: c, k + 1, i, h => by
    show (q :: c.set k (c.getD k [] ++ [i])).flatten.length = _
    have := flatten_set c k i (by simpa using h)
    rw [List.flatten_cons, List.flatten_cons, List.length_append, List.length_append, this]
    omega
theorem laid_put {a : Now} {m : Nat} {c : List (List Nat)} {i : Nat} (h : Laid a.l.length m c) (hi : i < a.l.length) : Laid a.l.length (m + 1) (a.put c i) := by
  rw [put_take]
  cases ht : takeF (c.map (lastV a)) (a.at_ i).v c.length with
  | none =>
    refine ⟨?_, ?_, fun q hq => ?_, fun q hq x hx => ?_⟩
    · rw [List.flatten_append, List.length_append, h.sum]
      rfl
    · rw [List.length_append]
      show c.length + 1 ≤ m + 1
      have := h.few
      omega
    · rcases List.mem_append.mp hq with hq | hq
      · exact h.full q hq
      · rw [List.mem_singleton.mp hq]
        exact List.cons_ne_nil _ _
    · rcases List.mem_append.mp hq with hq | hq
      · exact h.lt q hq x hx
      · rw [List.mem_singleton.mp hq, List.mem_singleton] at hx
        rw [hx]
        exact hi
  | some k =>
    have hk := takeF_lt _ _ ht
    have hg : c.getD k [] ∈ c := by
      rw [List.getD_eq_getElem?_getD, List.getElem?_eq_getElem hk]
      exact List.getElem_mem hk
    refine ⟨?_, ?_, fun q hq => ?_, fun q hq x hx => ?_⟩
    · show (c.set k _).flatten.length = _
      rw [flatten_set c k i hk, h.sum]
    · show (c.set k _).length ≤ _
      rw [List.length_set]
      have := h.few
      omega
    · rcases List.mem_or_eq_of_mem_set hq with hq | hq
      · exact h.full q hq
      · rw [hq]
        exact fun z => by simp at z
    · rcases List.mem_or_eq_of_mem_set hq with hq | hq
      · exact h.lt q hq x hx
      · rw [hq] at hx
        rcases List.mem_append.mp hx with hx | hx
        · exact h.lt _ hg x hx
        · rw [List.mem_singleton.mp hx]
          exact hi
theorem laid_nil (n : Nat) : Laid n 0 [] := ⟨rfl, Nat.le_refl _, (fun q hq => by cases hq), (fun q hq => by cases hq)⟩
theorem len_flatten : ∀ {c : List (List Nat)} {q : List Nat}, q ∈ c → q.length ≤ c.flatten.length
  | [], q, h => by cases h
  | p :: c, q, h => by
    rw [List.flatten_cons, List.length_append]
    rcases List.mem_cons.mp h with h | h
    · rw [h]
      omega
    · have := len_flatten h
      omega
end La

set_option Elab.async false
set_option linter.all false
set_option maxRecDepth 100000
set_option maxHeartbeats 4000000
namespace Lw
open PySem PySem.Spec PyProof.Rows L2
open PySem.W (Codec)
/-! ### short names of what operators and built-ins ask -/
abbrev rAdd : R2 := rI0 fun i j => .int (i + j)
abbrev rSub : R2 := rI0 fun i j => .int (i - j)
abbrev rMul : R2 := rI CMul fun i j => .int (i * j)
abbrev rDiv : R2 := rI CDiv fun i j => .int (i / j)
abbrev rMod : R2 := rI (fun _ j => 0 < j) fun i j => .int (i % j)
abbrev rLt : R2 := rI0 fun i j => .bl (decide (i < j))
abbrev rLe : R2 := rI0 fun i j => .bl (decide (i ≤ j))
abbrev rGt : R2 := rI0 fun i j => .bl (decide (j < i))
abbrev rGe : R2 := rI0 fun i j => .bl (decide (j ≤ i))
abbrev rNeg : V → Hp → VK → Prop := rU fun i => .int (-i)
def rAbs : List V → Hp → VK → Prop := fun xs H Q => ∃ i, xs = [.int i] ∧ Q (.int (if i < 0 then -i else i)) H
def rLen (K : PySem.W.Frag) : List V → Hp → VK → Prop := fun xs H Q => ∃ p ys, xs = [.ref p] ∧ (SqL K H p ys ∨ SqT K H p ys) ∧ Q (.int ys.length) H
def rMax2 : List V → Hp → VK → Prop := fun xs H Q => ∃ i j, xs = [.int i, .int j] ∧ Q (.int (if j > i then j else i)) H
def rMin2 : List V → Hp → VK → Prop := fun xs H Q => ∃ i j, xs = [.int i, .int j] ∧ Q (.int (if j < i then j else i)) H
abbrev rIsNone : R2 := fun x y H Q => y = .non ∧ Q (.bl (decide (x = .non))) H
/-! ### the text by places -/
def topS (i : Nat) : Stmt := PySem.Challenge.pw_lightevents_s01_answers.main.body.getD i (.Pass ⟨0, 0, 0, 0⟩)
/-- the tables of the code objects that lambdas are made of -/
abbrev tabsT (P_row_lengths : Addr) (P_most_apart : Addr) (P_clocks_for_all : Addr) : List (Addr × Str) := [(P_row_lengths, ("row_lengths" : Str) ++ ".<locals>." ++ "<lambda>"), (P_most_apart, ("most_apart" : Str) ++ ".<locals>." ++ "<lambda>"), (P_clocks_for_all, ("clocks_for_all" : Str) ++ ".<locals>." ++ "<lambda>")]
/-- what the top has written -/
structure Txt (K : PySem.W.Frag) (mg : Str → Option Value) (C_Session : Addr) (a_GIVEN_COUNTS : Addr) (P_row_lengths : Addr) (P_most_apart : Addr) (P_clocks_for_all : Addr) : Prop where
  g_SAME : ∃ t, mg "SAME" = some (.int (0) t)
  g_HEARD_BY_LIGHT : ∃ t, mg "HEARD_BY_LIGHT" = some (.int (1) t)
  g_HEARD_SLOWER : ∃ t, mg "HEARD_SLOWER" = some (.int (2) t)
  g_NEITHER : ∃ t, mg "NEITHER" = some (.int (3) t)
  g_HEARS_BY_LIGHT : ∃ t, mg "HEARS_BY_LIGHT" = some (.int (4) t)
  g_HEARS_SLOWER : ∃ t, mg "HEARS_SLOWER" = some (.int (5) t)
  g_MOST_EVENTS : ∃ t, mg "MOST_EVENTS" = some (.int (10) t)
  g_MOST_BACK : ∃ t, mg "MOST_BACK" = some (.int (10) t)
  g_FARTHEST : ∃ t, mg "FARTHEST" = some (.int (99) t)
  g_NO_EVENT : ∃ t, mg "NO_EVENT" = some (.int (-2) t)
  g_NO_CHANGE : ∃ t, mg "NO_CHANGE" = some (.int (-6) t)
  g_OUT_OF_RANGE : ∃ t, mg "OUT_OF_RANGE" = some (.int (-22) t)
  g_TOO_MANY : ∃ t, mg "TOO_MANY" = some (.int (-28) t)
  g_THERE_IS_NONE : ∃ t, mg "THERE_IS_NONE" = some (.int (-33) t)
  g_BEGIN : ∃ t, mg "BEGIN" = some (.int (0) t)
  g_PUT : ∃ t, mg "PUT" = some (.int (1) t)
  g_DROP : ∃ t, mg "DROP" = some (.int (2) t)
  g_MOVE : ∃ t, mg "MOVE" = some (.int (3) t)
  g_TURN : ∃ t, mg "TURN" = some (.int (4) t)
  g_EVENTS : ∃ t, mg "EVENTS" = some (.int (5) t)
  g_HEARD : ∃ t, mg "HEARD" = some (.int (6) t)
  g_KIND : ∃ t, mg "KIND" = some (.int (7) t)
  g_SQUARE : ∃ t, mg "SQUARE" = some (.int (8) t)
  g_PAST : ∃ t, mg "PAST" = some (.int (9) t)
  g_FUTURE : ∃ t, mg "FUTURE" = some (.int (10) t)
  g_BETWEEN : ∃ t, mg "BETWEEN" = some (.int (11) t)
  g_ASIDE : ∃ t, mg "ASIDE" = some (.int (12) t)
  g_FIRST : ∃ t, mg "FIRST" = some (.int (13) t)
  g_LAST : ∃ t, mg "LAST" = some (.int (14) t)
  g_REACH : ∃ t, mg "REACH" = some (.int (15) t)
  g_BY : ∃ t, mg "BY" = some (.int (16) t)
  g_LONG : ∃ t, mg "LONG" = some (.int (17) t)
  g_LONGEST : ∃ t, mg "LONGEST" = some (.int (18) t)
  g_CLOCK : ∃ t, mg "CLOCK" = some (.int (19) t)
  g_MOST : ∃ t, mg "MOST" = some (.int (20) t)
  g_CLOCKS : ∃ t, mg "CLOCKS" = some (.int (21) t)
  g_BACK : ∃ t, mg "BACK" = some (.int (22) t)
  g_GIVEN_COUNTS : mg "GIVEN_COUNTS" = some (.ref a_GIVEN_COUNTS)
  t_GIVEN_COUNTS : ∀ H, SqT K H a_GIVEN_COUNTS (([0, 2, 1, 3, 0, 0, 2, 2, 2, 1, 1, 2, 1, 2, 2, 3, 2, 1, 0, 0, 0, 0, 0, 0] : List Int).map V.int)
  g_NOT_BEGUN : ∃ t, mg "NOT_BEGUN" = some (.int (-11) t)
  nd_P : ((tabsT P_row_lengths P_most_apart P_clocks_for_all).map (·.1)).Nodup
  n_abs : mg "abs" = none
  n_enumerate : mg "enumerate" = none
  n_len : mg "len" = none
  n_max : mg "max" = none
  n_min : mg "min" = none
  n_range : mg "range" = none
  n_sorted : mg "sorted" = none
  c_Session : mg "Session" = some (.ref C_Session)
  cl_Session : Cls K C_Session
  f_Session_begun : NoAttr K C_Session "begun"
  f_Session_points : NoAttr K C_Session "points"
  f_Session_earlier : NoAttr K C_Session "earlier"
/-- a def of the top; a method; a class that makes instances: with its promise -/
structure Df (P : Program) (w : World) (K : PySem.W.Frag) (mg : Str → Option Value) (base : Heap) (x : Str) (k : Nat) (ps : List Str) (sp : Sp) : Prop where
  ex : ∃ f fd, FnOk P w K mg base CX0 k f fd ps sp ∧ mg x = some (.ref f) ∧ PySem.W.keepIn K (.ref f) = true ∧ Binds K fd ps []
structure Mt (P : Program) (w : World) (K : PySem.W.Frag) (mg : Str → Option Value) (base : Heap) (C : Addr) (x : Str) (k : Nat) (ps : List Str) (sp : Sp) : Prop where
  ex : ∃ f fd, FnOk P w K mg base CX0 k f fd ps sp ∧ Meth K C x f ∧ Binds K fd ps []
structure Mc (P : Program) (w : World) (K : PySem.W.Frag) (mg : Str → Option Value) (base : Heap) (C : Addr) (k : Nat) (ps : List Str) (sp : Sp) : Prop where
  ex : ∃ f fd, FnOk P w K mg base CX0 k f fd ps sp ∧ Mk K C f ∧ Binds K fd ps []
theorem hu64 {A : Around} {k : Nat} (hr : Room k A) : A.units + 64 < cLine := hr.units
abbrev s_is_heard : Stmt := topS 7
abbrev s_is_apart_below : Stmt := topS 8
abbrev s_square_of : Stmt := topS 9
abbrev s_kind_of : Stmt := topS 10
abbrev s_time_less_place : Stmt := topS 11
abbrev s_time_and_place : Stmt := topS 12
abbrev s_halves : Stmt := topS 13
abbrev s_crossing : Stmt := topS 14
abbrev s_first_of : Stmt := topS 15
abbrev s_last_of : Stmt := topS 16
abbrev s_may_go_on : Stmt := topS 18
abbrev s_row_lengths : Stmt := topS 19
abbrev s_longest_row : Stmt := topS 20
abbrev s_clock_of : Stmt := topS 21
abbrev s_most_apart : Stmt := topS 22
abbrev s_clock_to_take : Stmt := topS 23
abbrev s_clocks_for_all : Stmt := topS 24
abbrev s_in_range : Stmt := topS 34
abbrev s_counted : Stmt := topS 35
abbrev s_Session_init : Stmt := inClass (topS 36) 0
abbrev s_Session_has : Stmt := inClass (topS 36) 1
abbrev s_Session_others : Stmt := inClass (topS 36) 2
abbrev s_Session_become : Stmt := inClass (topS 36) 3
abbrev s_Session_begin : Stmt := inClass (topS 36) 4
abbrev s_Session_back : Stmt := inClass (topS 36) 5
abbrev s_Session_state : Stmt := inClass (topS 36) 6
abbrev s_Session_put : Stmt := inClass (topS 36) 7
abbrev s_Session_drop : Stmt := inClass (topS 36) 8
abbrev s_Session_move : Stmt := inClass (topS 36) 9
abbrev s_Session_turn : Stmt := inClass (topS 36) 10
abbrev s_Session_events : Stmt := inClass (topS 36) 11
abbrev s_Session_heard : Stmt := inClass (topS 36) 12
abbrev s_Session_kind : Stmt := inClass (topS 36) 13
abbrev s_Session_square : Stmt := inClass (topS 36) 14
abbrev s_Session_past : Stmt := inClass (topS 36) 15
abbrev s_Session_future : Stmt := inClass (topS 36) 16
abbrev s_Session_between : Stmt := inClass (topS 36) 17
abbrev s_Session_aside : Stmt := inClass (topS 36) 18
abbrev s_Session_first : Stmt := inClass (topS 36) 19
abbrev s_Session_last : Stmt := inClass (topS 36) 20
abbrev s_Session_reach : Stmt := inClass (topS 36) 21
abbrev s_Session_by : Stmt := inClass (topS 36) 22
abbrev s_Session_long : Stmt := inClass (topS 36) 23
abbrev s_Session_longest : Stmt := inClass (topS 36) 24
abbrev s_Session_clock : Stmt := inClass (topS 36) 25
abbrev s_Session_most : Stmt := inClass (topS 36) 26
abbrev s_Session_clocks : Stmt := inClass (topS 36) 27
abbrev s_change : Stmt := topS 63
abbrev s_tell_heard : Stmt := topS 64
abbrev s_tell_light : Stmt := topS 65
abbrev s_tell_rows : Stmt := topS 66
abbrev s_answer : Stmt := topS 67
abbrev s_answers : Stmt := topS 68
/-! ### the readings -/
abbrev N_is_heard : List Str := ["one", "two", "later"]
/-- is_heard: slots one 0, two 1, later 2 -/
def t_is_heard (K : PySem.W.Frag) (C_Session : Addr) (a_GIVEN_COUNTS : Addr) (P_row_lengths : Addr) (P_most_apart : Addr) (P_clocks_for_all : Addr) : TS :=
  tSeq (tAsg (tOp rSub (tOp (rIxT K) (tVar 1) (tC (.int 0))) (tOp (rIxT K) (tVar 0) (tC (.int 0)))) (gName 2))
    (tRet (tOp rGe (tVar 2) (tCB rAbs (tCons (tOp rSub (tOp (rIxT K) (tVar 1) (tC (.int 1))) (tOp (rIxT K) (tVar 0) (tC (.int 1)))) (tNil)))))
abbrev N_is_apart_below : List Str := ["one", "two"]
/-- is_apart_below: slots one 0, two 1 -/
def t_is_apart_below (K : PySem.W.Frag) (C_Session : Addr) (a_GIVEN_COUNTS : Addr) (P_row_lengths : Addr) (P_most_apart : Addr) (P_clocks_for_all : Addr) : TS :=
  tRet (tOp rGt (tOp rSub (tOp (rIxT K) (tVar 1) (tC (.int 1))) (tOp (rIxT K) (tVar 0) (tC (.int 1)))) (tCB rAbs (tCons (tOp rSub (tOp (rIxT K) (tVar 1) (tC (.int 0))) (tOp (rIxT K) (tVar 0) (tC (.int 0)))) (tNil))))
abbrev N_square_of : List Str := ["one", "two", "later", "off"]
/-- square_of: slots one 0, two 1, later 2, off 3 -/
def t_square_of (K : PySem.W.Frag) (C_Session : Addr) (a_GIVEN_COUNTS : Addr) (P_row_lengths : Addr) (P_most_apart : Addr) (P_clocks_for_all : Addr) : TS :=
  tSeq (tAsg (tOp rSub (tOp (rIxT K) (tVar 1) (tC (.int 0))) (tOp (rIxT K) (tVar 0) (tC (.int 0)))) (gName 2))
    (tSeq (tAsg (tOp rSub (tOp (rIxT K) (tVar 1) (tC (.int 1))) (tOp (rIxT K) (tVar 0) (tC (.int 1)))) (gName 3))
    (tRet (tOp rSub (tOp rMul (tVar 2) (tVar 2)) (tOp rMul (tVar 3) (tVar 3)))))
abbrev N_kind_of : List Str := ["one", "two", "by_light"]
/-- kind_of: slots one 0, two 1, by_light 2 -/
def t_kind_of (K : PySem.W.Frag) (C_Session : Addr) (a_GIVEN_COUNTS : Addr) (P_row_lengths : Addr) (P_most_apart : Addr) (P_clocks_for_all : Addr) (sp_square_of : Sp) (sp_is_heard : Sp) : TS :=
  tSeq (tIfS (tTest (tOp (rEqD K) (tVar 0) (tVar 1))) (tRet (tC (.int (0)))) (tNext))
    (tSeq (tAsg (tOp rEq (tCall sp_square_of [] E0 (tCons (tVar 0) (tCons (tVar 1) (tNil)))) (tC (.int 0))) (gName 2))
    (tSeq (tIfS (tB (tCall sp_is_heard [] E0 (tCons (tVar 0) (tCons (tVar 1) (tNil))))) (tRet (tIf (tB (tVar 2)) (tC (.int (1))) (tC (.int (2))))) (tNext))
    (tSeq (tIfS (tB (tCall sp_is_heard [] E0 (tCons (tVar 1) (tCons (tVar 0) (tNil))))) (tRet (tIf (tB (tVar 2)) (tC (.int (4))) (tC (.int (5))))) (tNext))
    (tRet (tC (.int (3)))))))
abbrev N_time_less_place : List Str := ["point"]
/-- time_less_place: slots point 0 -/
def t_time_less_place (K : PySem.W.Frag) (C_Session : Addr) (a_GIVEN_COUNTS : Addr) (P_row_lengths : Addr) (P_most_apart : Addr) (P_clocks_for_all : Addr) : TS :=
  tRet (tOp rSub (tOp (rIxT K) (tVar 0) (tC (.int 0))) (tOp (rIxT K) (tVar 0) (tC (.int 1))))
abbrev N_time_and_place : List Str := ["point"]
/-- time_and_place: slots point 0 -/
def t_time_and_place (K : PySem.W.Frag) (C_Session : Addr) (a_GIVEN_COUNTS : Addr) (P_row_lengths : Addr) (P_most_apart : Addr) (P_clocks_for_all : Addr) : TS :=
  tRet (tOp rAdd (tOp (rIxT K) (tVar 0) (tC (.int 0))) (tOp (rIxT K) (tVar 0) (tC (.int 1))))
abbrev N_halves : List Str := ["number"]
/-- halves: slots number 0 -/
def t_halves (K : PySem.W.Frag) (C_Session : Addr) (a_GIVEN_COUNTS : Addr) (P_row_lengths : Addr) (P_most_apart : Addr) (P_clocks_for_all : Addr) : TS :=
  tSeq (tIfS (tTest (tOp rEq (tOp rMod (tVar 0) (tC (.int 2))) (tC (.int 0)))) (tRet (tLst (tCons (tOp rDiv (tVar 0) (tC (.int 2))) (tCons (tC (.int 1)) (tNil))))) (tNext))
    (tRet (tLst (tCons (tVar 0) (tCons (tC (.int 2)) (tNil)))))
abbrev N_crossing : List Str := ["less", "both"]
/-- crossing: slots less 0, both 1 -/
def t_crossing (K : PySem.W.Frag) (C_Session : Addr) (a_GIVEN_COUNTS : Addr) (P_row_lengths : Addr) (P_most_apart : Addr) (P_clocks_for_all : Addr) (sp_halves : Sp) : TS :=
  tRet (tOp rCat (tCall sp_halves [] E0 (tCons (tOp rAdd (tVar 1) (tVar 0)) (tNil))) (tCall sp_halves [] E0 (tCons (tOp rSub (tVar 1) (tVar 0)) (tNil))))
abbrev N_first_of : List Str := ["one", "two"]
/-- first_of: slots one 0, two 1 -/
def t_first_of (K : PySem.W.Frag) (C_Session : Addr) (a_GIVEN_COUNTS : Addr) (P_row_lengths : Addr) (P_most_apart : Addr) (P_clocks_for_all : Addr) (sp_crossing : Sp) (sp_time_and_place : Sp) (sp_time_less_place : Sp) : TS :=
  tRet (tCall sp_crossing [] E0 (tCons (tCB rMax2 (tCons (tCall sp_time_less_place [] E0 (tCons (tVar 0) (tNil))) (tCons (tCall sp_time_less_place [] E0 (tCons (tVar 1) (tNil))) (tNil)))) (tCons (tCB rMax2 (tCons (tCall sp_time_and_place [] E0 (tCons (tVar 0) (tNil))) (tCons (tCall sp_time_and_place [] E0 (tCons (tVar 1) (tNil))) (tNil)))) (tNil))))
abbrev N_last_of : List Str := ["one", "two"]
/-- last_of: slots one 0, two 1 -/
def t_last_of (K : PySem.W.Frag) (C_Session : Addr) (a_GIVEN_COUNTS : Addr) (P_row_lengths : Addr) (P_most_apart : Addr) (P_clocks_for_all : Addr) (sp_crossing : Sp) (sp_time_and_place : Sp) (sp_time_less_place : Sp) : TS :=
  tRet (tCall sp_crossing [] E0 (tCons (tCB rMin2 (tCons (tCall sp_time_less_place [] E0 (tCons (tVar 0) (tNil))) (tCons (tCall sp_time_less_place [] E0 (tCons (tVar 1) (tNil))) (tNil)))) (tCons (tCB rMin2 (tCons (tCall sp_time_and_place [] E0 (tCons (tVar 0) (tNil))) (tCons (tCall sp_time_and_place [] E0 (tCons (tVar 1) (tNil))) (tNil)))) (tNil))))
abbrev N_may_go_on : List Str := ["points", "k", "i"]
/-- may_go_on: slots points 0, k 1, i 2 -/
def t_may_go_on (K : PySem.W.Frag) (C_Session : Addr) (a_GIVEN_COUNTS : Addr) (P_row_lengths : Addr) (P_most_apart : Addr) (P_clocks_for_all : Addr) (sp_is_heard : Sp) : TS :=
  tSeq (tIfS (tTest (tOp (rEqD K) (tOp (rIxL K) (tVar 0) (tVar 1)) (tOp (rIxL K) (tVar 0) (tVar 2)))) (tRet (tOp rLt (tVar 1) (tVar 2))) (tNext))
    (tRet (tCall sp_is_heard [] E0 (tCons (tOp (rIxL K) (tVar 0) (tVar 1)) (tCons (tOp (rIxL K) (tVar 0) (tVar 2)) (tNil)))))
abbrev N_row_lengths : List Str := ["points", "lengths", "i", "k"]
/-- row_lengths: slots points 0, lengths 1, i 2, k 3 -/
def t_row_lengths (K : PySem.W.Frag) (C_Session : Addr) (a_GIVEN_COUNTS : Addr) (P_row_lengths : Addr) (P_most_apart : Addr) (P_clocks_for_all : Addr) (sp_may_go_on : Sp) : TS :=
  tSeq (tAsg (tOp rRep (tLst (tCons (tC (.int 0)) (tNil))) (tCB (rLen K) (tCons (tVar 0) (tNil)))) (gName 1))
    (tSeq (tFor (iList K (Lk.tSortLam K (tabsT P_row_lengths P_most_apart P_clocks_for_all) (tCB Lk.rRange1 (tCons (tCB (rLen K) (tCons (tVar 0) (tNil))) (tNil))) 3 (tTup (tCons (tOp (rIxT K) (tOp (rIxL K) (tVar 0) (tVar 3)) (tC (.int 0))) (tCons (tVar 3) (tNil)))))) (gName 2) (tAsg (tOp rAdd (tC (.int 1)) (tCKw (Lk.rMaxD K) (tCons (tLc (iRng1 (tCons (tCB (rLen K) (tCons (tVar 0) (tNil))) (tNil))) (gName 3) (tB (tCall sp_may_go_on [] E0 (tCons (tVar 0) (tCons (tVar 3) (tCons (tVar 2) (tNil)))))) (tOp (rIxL K) (tVar 1) (tVar 3)) [3]) (tNil)) (tCons (tC (.int 0)) tNil))) (gSub (tVar 1) (tVar 2) rSetL)))
    (tRet (tVar 1)))
abbrev N_longest_row : List Str := ["points"]
/-- longest_row: slots points 0 -/
def t_longest_row (K : PySem.W.Frag) (C_Session : Addr) (a_GIVEN_COUNTS : Addr) (P_row_lengths : Addr) (P_most_apart : Addr) (P_clocks_for_all : Addr) (sp_row_lengths : Sp) : TS :=
  tRet (tCKw (Lk.rMaxD K) (tCons (tCall sp_row_lengths [] E0 (tCons (tVar 0) (tNil))) (tNil)) (tCons (tC (.int 0)) tNil))
abbrev N_clock_of : List Str := ["points", "lengths", "ends", "clock", "last", "before", "i", "k"]
/-- clock_of: slots points 0, lengths 1, ends 2, clock 3, last 4, before 5, i 6, k 7 -/
def t_clock_of (K : PySem.W.Frag) (C_Session : Addr) (a_GIVEN_COUNTS : Addr) (P_row_lengths : Addr) (P_most_apart : Addr) (P_clocks_for_all : Addr) (sp_row_lengths : Sp) (sp_may_go_on : Sp) : TS :=
  tSeq (tAsg (tCall sp_row_lengths [] E0 (tCons (tVar 0) (tNil))) (gName 1))
    (tSeq (tAsg (tLc (iRng1 (tCons (tCB (rLen K) (tCons (tVar 0) (tNil))) (tNil))) (gName 6) (tTest (tOp rEq (tOp (rIxL K) (tVar 1) (tVar 6)) (tCB (L2.rMax K) (tCons (tVar 1) (tNil))))) (tVar 6) [6]) (gName 2))
    (tSeq (tAsg (tLst (tNil)) (gName 3))
    (tSeq (tWhile (Lk.tTru K (tVar 2)) (tSeq (tAsg (tCB (L2.rMin K) (tCons (tVar 2) (tNil))) (gName 4))
    (tSeq (tAsg (tOp rCat (tLst (tCons (tVar 4) (tNil))) (tVar 3)) (gName 3))
    (tSeq (tAsg (tLc (iRng1 (tCons (tCB (rLen K) (tCons (tVar 0) (tNil))) (tNil))) (gName 7) (tB (tCall sp_may_go_on [] E0 (tCons (tVar 0) (tCons (tVar 7) (tCons (tVar 4) (tNil)))))) (tVar 7) [7]) (gName 5))
    (tAsg (tLc (iList K (tVar 5)) (gName 7) (tTest (tOp rEq (tOp (rIxL K) (tVar 1) (tVar 7)) (tOp rSub (tOp (rIxL K) (tVar 1) (tVar 4)) (tC (.int 1))))) (tVar 7) [7]) (gName 2))))))
    (tRet (tVar 3)))))
abbrev N_most_apart : List Str := ["points", "rising", "counts", "i", "point", "k"]
/-- most_apart: slots points 0, rising 1, counts 2, i 3, point 4, k 5 -/
def t_most_apart (K : PySem.W.Frag) (C_Session : Addr) (a_GIVEN_COUNTS : Addr) (P_row_lengths : Addr) (P_most_apart : Addr) (P_clocks_for_all : Addr) (sp_is_apart_below : Sp) : TS :=
  tSeq (tAsg (Lk.tSortLam K (tabsT P_row_lengths P_most_apart P_clocks_for_all) (tVar 0) 4 (tOp (rIxT K) (tVar 4) (tC (.int 1)))) (gName 1))
    (tSeq (tAsg (tLst (tNil)) (gName 2))
    (tSeq (tFor (iEnum K (tCons (tVar 1) (tNil))) (gTup K 2 (gCons (gName 3) (gCons (gName 4) (gNil)))) (tDrop (tBM K "list" rAppend (tVar 2) (tCons (tOp rAdd (tC (.int 1)) (tCKw (Lk.rMaxD K) (tCons (tLc (iRng1 (tCons (tVar 3) (tNil))) (gName 5) (tB (tCall sp_is_apart_below [] E0 (tCons (tOp (rIxL K) (tVar 1) (tVar 5)) (tCons (tVar 4) (tNil))))) (tOp (rIxL K) (tVar 2) (tVar 5)) [5]) (tNil)) (tCons (tC (.int 0)) tNil))) (tNil)))))
    (tRet (tCKw (Lk.rMaxD K) (tCons (tVar 2) (tNil)) (tCons (tC (.int 0)) tNil)))))
abbrev N_clock_to_take : List Str := ["lasts", "own", "taken", "c", "last"]
/-- clock_to_take: slots lasts 0, own 1, taken 2, c 3, last 4 -/
def t_clock_to_take (K : PySem.W.Frag) (C_Session : Addr) (a_GIVEN_COUNTS : Addr) (P_row_lengths : Addr) (P_most_apart : Addr) (P_clocks_for_all : Addr) : TS :=
  tSeq (tAsg (tC .non) (gName 2))
    (tSeq (tFor (iEnum K (tCons (tVar 0) (tNil))) (gTup K 2 (gCons (gName 3) (gCons (gName 4) (gNil)))) (tIfS (tAnd (tTest (tOp rLe (tVar 4) (tVar 1))) (tOr (tTest (tOp rIsNone (tVar 2) (tC .non))) (tTest (tOp rGt (tVar 4) (tOp (rIxL K) (tVar 0) (tVar 2)))))) (tAsg (tVar 3) (gName 2)) (tNext)))
    (tRet (tVar 2)))
abbrev N_clocks_for_all : List Str := ["points", "order", "clocks", "i", "lasts", "taken", "k", "clock"]
/-- clocks_for_all: slots points 0, order 1, clocks 2, i 3, lasts 4, taken 5, k 6, clock 7 -/
def t_clocks_for_all (K : PySem.W.Frag) (C_Session : Addr) (a_GIVEN_COUNTS : Addr) (P_row_lengths : Addr) (P_most_apart : Addr) (P_clocks_for_all : Addr) (sp_time_and_place : Sp) (sp_time_less_place : Sp) (sp_clock_to_take : Sp) : TS :=
  tSeq (tAsg (Lk.tSortLam K (tabsT P_row_lengths P_most_apart P_clocks_for_all) (tCB Lk.rRange1 (tCons (tCB (rLen K) (tCons (tVar 0) (tNil))) (tNil))) 6 (tTup (tCons (tCall sp_time_less_place [] E0 (tCons (tOp (rIxL K) (tVar 0) (tVar 6)) (tNil))) (tCons (tCall sp_time_and_place [] E0 (tCons (tOp (rIxL K) (tVar 0) (tVar 6)) (tNil))) (tCons (tVar 6) (tNil)))))) (gName 1))
    (tSeq (tAsg (tLst (tNil)) (gName 2))
    (tSeq (tFor (iList K (tVar 1)) (gName 3) (tSeq (tAsg (tLc (iList K (tVar 2)) (gName 7) (tYes) (tCall sp_time_and_place [] E0 (tCons (tOp (rIxL K) (tVar 0) (tOp (rIxL K) (tVar 7) (tUn rNeg (tC (.int 1))))) (tNil))) [7]) (gName 4))
    (tSeq (tAsg (tCall sp_clock_to_take [] E0 (tCons (tVar 4) (tCons (tCall sp_time_and_place [] E0 (tCons (tOp (rIxL K) (tVar 0) (tVar 3)) (tNil))) (tNil)))) (gName 5))
    (tIfS (tTest (tOp rIsNone (tVar 5) (tC .non))) (tDrop (tBM K "list" rAppend (tVar 2) (tCons (tLst (tCons (tVar 3) (tNil))) (tNil)))) (tDrop (tBM K "list" rAppend (tOp (rIxL K) (tVar 2) (tVar 5)) (tCons (tVar 3) (tNil))))))))
    (tRet (tVar 2))))
abbrev N_in_range : List Str := ["number"]
/-- in_range: slots number 0 -/
def t_in_range (K : PySem.W.Frag) (C_Session : Addr) (a_GIVEN_COUNTS : Addr) (P_row_lengths : Addr) (P_most_apart : Addr) (P_clocks_for_all : Addr) : TS :=
  tRet (tOp rLe (tCB rAbs (tCons (tVar 0) (tNil))) (tC (.int (99))))
abbrev N_counted : List Str := ["numbers"]
/-- counted: slots numbers 0 -/
def t_counted (K : PySem.W.Frag) (C_Session : Addr) (a_GIVEN_COUNTS : Addr) (P_row_lengths : Addr) (P_most_apart : Addr) (P_clocks_for_all : Addr) : TS :=
  tRet (tOp rCat (tLst (tCons (tCB (rLen K) (tCons (tVar 0) (tNil))) (tNil))) (tVar 0))
abbrev N_Session_init : List Str := ["self"]
/-- Session.__init__: slots self 0 -/
def t_Session_init (K : PySem.W.Frag) (C_Session : Addr) (a_GIVEN_COUNTS : Addr) (P_row_lengths : Addr) (P_most_apart : Addr) (P_clocks_for_all : Addr) : TS :=
  tSeq (sFld K (tVar 0) (tC (.bl false)) "begun")
    (tSeq (sFld K (tVar 0) (tLst (tNil)) "points")
    (sFld K (tVar 0) (tLst (tNil)) "earlier"))
abbrev N_Session_has : List Str := ["self", "i"]
/-- Session.has: slots self 0, i 1 -/
def t_Session_has (K : PySem.W.Frag) (C_Session : Addr) (a_GIVEN_COUNTS : Addr) (P_row_lengths : Addr) (P_most_apart : Addr) (P_clocks_for_all : Addr) : TS :=
  tRet (tChain rLe rLt (tC (.int 0)) (tVar 1) (tCB (rLen K) (tCons (tFld K (tVar 0) "points") (tNil))))
abbrev N_Session_others : List Str := ["self", "i", "j", "k"]
/-- Session.others: slots self 0, i 1, j 2, k 3 -/
def t_Session_others (K : PySem.W.Frag) (C_Session : Addr) (a_GIVEN_COUNTS : Addr) (P_row_lengths : Addr) (P_most_apart : Addr) (P_clocks_for_all : Addr) : TS :=
  tRet (tLc (iRng1 (tCons (tCB (rLen K) (tCons (tFld K (tVar 0) "points") (tNil))) (tNil))) (gName 3) (tAnd (tTest (tOp rNe (tVar 3) (tVar 1))) (tTest (tOp rNe (tVar 3) (tVar 2)))) (tVar 3) [3])
abbrev N_Session_become : List Str := ["self", "points"]
/-- Session.become: slots self 0, points 1 -/
def t_Session_become (K : PySem.W.Frag) (C_Session : Addr) (a_GIVEN_COUNTS : Addr) (P_row_lengths : Addr) (P_most_apart : Addr) (P_clocks_for_all : Addr) : TS :=
  tSeq (sFld K (tVar 0) (tSl (rSlL K) (tOp rCat (tFld K (tVar 0) "earlier") (tLst (tCons (tFld K (tVar 0) "points") (tNil)))) (tPart (tUn rNeg (tC (.int (10))))) (tNoPart)) "earlier")
    (sFld K (tVar 0) (tVar 1) "points")
abbrev N_Session_begin : List Str := ["self"]
/-- Session.begin: slots self 0 -/
def t_Session_begin (K : PySem.W.Frag) (C_Session : Addr) (a_GIVEN_COUNTS : Addr) (P_row_lengths : Addr) (P_most_apart : Addr) (P_clocks_for_all : Addr) : TS :=
  tSeq (sFld K (tVar 0) (tC (.bl true)) "begun")
    (tSeq (sFld K (tVar 0) (tLst (tNil)) "points")
    (tSeq (sFld K (tVar 0) (tLst (tNil)) "earlier")
    (tRet (tLst (tCons (tC (.int 0)) (tNil))))))
abbrev N_Session_back : List Str := ["self"]
/-- Session.back: slots self 0 -/
def t_Session_back (K : PySem.W.Frag) (C_Session : Addr) (a_GIVEN_COUNTS : Addr) (P_row_lengths : Addr) (P_most_apart : Addr) (P_clocks_for_all : Addr) : TS :=
  tSeq (tIfS (tNot (Lk.tTru K (tFld K (tVar 0) "earlier"))) (tRet (tLst (tCons (tC (.int (-6))) (tNil)))) (tNext))
    (tSeq (sFld K (tVar 0) (tOp (rIxL K) (tFld K (tVar 0) "earlier") (tUn rNeg (tC (.int 1)))) "points")
    (tSeq (sFld K (tVar 0) (tSl (rSlL K) (tFld K (tVar 0) "earlier") (tNoPart) (tPart (tUn rNeg (tC (.int 1))))) "earlier")
    (tRet (tLst (tCons (tCB (rLen K) (tCons (tFld K (tVar 0) "earlier") (tNil))) (tNil))))))
abbrev N_Session_state : List Str := ["self"]
/-- Session.state: slots self 0 -/
def t_Session_state (K : PySem.W.Frag) (C_Session : Addr) (a_GIVEN_COUNTS : Addr) (P_row_lengths : Addr) (P_most_apart : Addr) (P_clocks_for_all : Addr) : TS :=
  tRet (tLst (tCons (tCB (rLen K) (tCons (tFld K (tVar 0) "points") (tNil))) (tCons (tCB (rLen K) (tCons (tFld K (tVar 0) "earlier") (tNil))) (tNil))))
abbrev N_Session_put : List Str := ["self", "t", "x"]
/-- Session.put: slots self 0, t 1, x 2 -/
def t_Session_put (K : PySem.W.Frag) (C_Session : Addr) (a_GIVEN_COUNTS : Addr) (P_row_lengths : Addr) (P_most_apart : Addr) (P_clocks_for_all : Addr) (sp_in_range : Sp) (sp_Session_become : Sp) : TS :=
  tSeq (tIfS (tNot (tAnd (tB (tCall sp_in_range [] E0 (tCons (tVar 1) (tNil)))) (tB (tCall sp_in_range [] E0 (tCons (tVar 2) (tNil)))))) (tRet (tLst (tCons (tC (.int (-22))) (tNil)))) (tNext))
    (tSeq (tIfS (tTest (tOp rGe (tCB (rLen K) (tCons (tFld K (tVar 0) "points") (tNil))) (tC (.int (10))))) (tRet (tLst (tCons (tC (.int (-28))) (tNil)))) (tNext))
    (tSeq (tDrop (tMeth C_Session "become" sp_Session_become [] E0 (tVar 0) (tCons (tOp rCat (tFld K (tVar 0) "points") (tLst (tCons (tTup (tCons (tVar 1) (tCons (tVar 2) (tNil)))) (tNil)))) (tNil))))
    (tRet (tLst (tCons (tOp rSub (tCB (rLen K) (tCons (tFld K (tVar 0) "points") (tNil))) (tC (.int 1))) (tNil))))))
abbrev N_Session_drop : List Str := ["self", "i"]
/-- Session.drop: slots self 0, i 1 -/
def t_Session_drop (K : PySem.W.Frag) (C_Session : Addr) (a_GIVEN_COUNTS : Addr) (P_row_lengths : Addr) (P_most_apart : Addr) (P_clocks_for_all : Addr) (sp_Session_has : Sp) (sp_Session_become : Sp) : TS :=
  tSeq (tIfS (tNot (tB (tMeth C_Session "has" sp_Session_has [] E0 (tVar 0) (tCons (tVar 1) (tNil))))) (tRet (tLst (tCons (tC (.int (-2))) (tNil)))) (tNext))
    (tSeq (tDrop (tMeth C_Session "become" sp_Session_become [] E0 (tVar 0) (tCons (tOp rCat (tSl (rSlL K) (tFld K (tVar 0) "points") (tNoPart) (tPart (tVar 1))) (tSl (rSlL K) (tFld K (tVar 0) "points") (tPart (tOp rAdd (tVar 1) (tC (.int 1)))) (tNoPart))) (tNil))))
    (tRet (tLst (tCons (tCB (rLen K) (tCons (tFld K (tVar 0) "points") (tNil))) (tNil)))))
abbrev N_Session_move : List Str := ["self", "i", "t", "x"]
/-- Session.move: slots self 0, i 1, t 2, x 3 -/
def t_Session_move (K : PySem.W.Frag) (C_Session : Addr) (a_GIVEN_COUNTS : Addr) (P_row_lengths : Addr) (P_most_apart : Addr) (P_clocks_for_all : Addr) (sp_in_range : Sp) (sp_Session_has : Sp) (sp_Session_become : Sp) : TS :=
  tSeq (tIfS (tNot (tB (tMeth C_Session "has" sp_Session_has [] E0 (tVar 0) (tCons (tVar 1) (tNil))))) (tRet (tLst (tCons (tC (.int (-2))) (tNil)))) (tNext))
    (tSeq (tIfS (tNot (tAnd (tB (tCall sp_in_range [] E0 (tCons (tVar 2) (tNil)))) (tB (tCall sp_in_range [] E0 (tCons (tVar 3) (tNil)))))) (tRet (tLst (tCons (tC (.int (-22))) (tNil)))) (tNext))
    (tSeq (tDrop (tMeth C_Session "become" sp_Session_become [] E0 (tVar 0) (tCons (tOp rCat (tOp rCat (tSl (rSlL K) (tFld K (tVar 0) "points") (tNoPart) (tPart (tVar 1))) (tLst (tCons (tTup (tCons (tVar 2) (tCons (tVar 3) (tNil)))) (tNil)))) (tSl (rSlL K) (tFld K (tVar 0) "points") (tPart (tOp rAdd (tVar 1) (tC (.int 1)))) (tNoPart))) (tNil))))
    (tRet (tLst (tCons (tC (.int 0)) (tNil))))))
abbrev N_Session_turn : List Str := ["self", "point"]
/-- Session.turn: slots self 0, point 1 -/
def t_Session_turn (K : PySem.W.Frag) (C_Session : Addr) (a_GIVEN_COUNTS : Addr) (P_row_lengths : Addr) (P_most_apart : Addr) (P_clocks_for_all : Addr) (sp_Session_become : Sp) : TS :=
  tSeq (tDrop (tMeth C_Session "become" sp_Session_become [] E0 (tVar 0) (tCons (tLc (iList K (tFld K (tVar 0) "points")) (gName 1) (tYes) (tTup (tCons (tUn rNeg (tOp (rIxT K) (tVar 1) (tC (.int 0)))) (tCons (tUn rNeg (tOp (rIxT K) (tVar 1) (tC (.int 1)))) (tNil)))) [1]) (tNil))))
    (tRet (tLst (tCons (tCB (rLen K) (tCons (tFld K (tVar 0) "points") (tNil))) (tNil))))
abbrev N_Session_events : List Str := ["self", "told", "point"]
/-- Session.events: slots self 0, told 1, point 2 -/
def t_Session_events (K : PySem.W.Frag) (C_Session : Addr) (a_GIVEN_COUNTS : Addr) (P_row_lengths : Addr) (P_most_apart : Addr) (P_clocks_for_all : Addr) : TS :=
  tSeq (tAsg (tLst (tCons (tCB (rLen K) (tCons (tFld K (tVar 0) "points") (tNil))) (tNil))) (gName 1))
    (tSeq (tFor (iList K (tFld K (tVar 0) "points")) (gName 2) (tSeq (tDrop (tBM K "list" rAppend (tVar 1) (tCons (tOp (rIxT K) (tVar 2) (tC (.int 0))) (tNil))))
    (tDrop (tBM K "list" rAppend (tVar 1) (tCons (tOp (rIxT K) (tVar 2) (tC (.int 1))) (tNil))))))
    (tRet (tVar 1)))
abbrev N_Session_heard : List Str := ["self", "i", "j"]
/-- Session.heard: slots self 0, i 1, j 2 -/
def t_Session_heard (K : PySem.W.Frag) (C_Session : Addr) (a_GIVEN_COUNTS : Addr) (P_row_lengths : Addr) (P_most_apart : Addr) (P_clocks_for_all : Addr) (sp_is_heard : Sp) (sp_Session_has : Sp) : TS :=
  tSeq (tIfS (tNot (tAnd (tB (tMeth C_Session "has" sp_Session_has [] E0 (tVar 0) (tCons (tVar 1) (tNil)))) (tB (tMeth C_Session "has" sp_Session_has [] E0 (tVar 0) (tCons (tVar 2) (tNil)))))) (tRet (tLst (tCons (tC (.int (-2))) (tNil)))) (tNext))
    (tRet (tLst (tCons (tIf (tB (tCall sp_is_heard [] E0 (tCons (tOp (rIxL K) (tFld K (tVar 0) "points") (tVar 1)) (tCons (tOp (rIxL K) (tFld K (tVar 0) "points") (tVar 2)) (tNil))))) (tC (.int 1)) (tC (.int 0))) (tNil))))
abbrev N_Session_kind : List Str := ["self", "i", "j"]
/-- Session.kind: slots self 0, i 1, j 2 -/
def t_Session_kind (K : PySem.W.Frag) (C_Session : Addr) (a_GIVEN_COUNTS : Addr) (P_row_lengths : Addr) (P_most_apart : Addr) (P_clocks_for_all : Addr) (sp_kind_of : Sp) (sp_Session_has : Sp) : TS :=
  tSeq (tIfS (tNot (tAnd (tB (tMeth C_Session "has" sp_Session_has [] E0 (tVar 0) (tCons (tVar 1) (tNil)))) (tB (tMeth C_Session "has" sp_Session_has [] E0 (tVar 0) (tCons (tVar 2) (tNil)))))) (tRet (tLst (tCons (tC (.int (-2))) (tNil)))) (tNext))
    (tRet (tLst (tCons (tCall sp_kind_of [] E0 (tCons (tOp (rIxL K) (tFld K (tVar 0) "points") (tVar 1)) (tCons (tOp (rIxL K) (tFld K (tVar 0) "points") (tVar 2)) (tNil)))) (tNil))))
abbrev N_Session_square : List Str := ["self", "i", "j"]
/-- Session.square: slots self 0, i 1, j 2 -/
def t_Session_square (K : PySem.W.Frag) (C_Session : Addr) (a_GIVEN_COUNTS : Addr) (P_row_lengths : Addr) (P_most_apart : Addr) (P_clocks_for_all : Addr) (sp_square_of : Sp) (sp_Session_has : Sp) : TS :=
  tSeq (tIfS (tNot (tAnd (tB (tMeth C_Session "has" sp_Session_has [] E0 (tVar 0) (tCons (tVar 1) (tNil)))) (tB (tMeth C_Session "has" sp_Session_has [] E0 (tVar 0) (tCons (tVar 2) (tNil)))))) (tRet (tLst (tCons (tC (.int (-2))) (tNil)))) (tNext))
    (tRet (tLst (tCons (tC (.int 0)) (tCons (tCall sp_square_of [] E0 (tCons (tOp (rIxL K) (tFld K (tVar 0) "points") (tVar 1)) (tCons (tOp (rIxL K) (tFld K (tVar 0) "points") (tVar 2)) (tNil)))) (tNil)))))
abbrev N_Session_past : List Str := ["self", "i", "here", "k"]
/-- Session.past: slots self 0, i 1, here 2, k 3 -/
def t_Session_past (K : PySem.W.Frag) (C_Session : Addr) (a_GIVEN_COUNTS : Addr) (P_row_lengths : Addr) (P_most_apart : Addr) (P_clocks_for_all : Addr) (sp_counted : Sp) (sp_is_heard : Sp) (sp_Session_has : Sp) (sp_Session_others : Sp) : TS :=
  tSeq (tIfS (tNot (tB (tMeth C_Session "has" sp_Session_has [] E0 (tVar 0) (tCons (tVar 1) (tNil))))) (tRet (tLst (tCons (tC (.int (-2))) (tNil)))) (tNext))
    (tSeq (tAsg (tOp (rIxL K) (tFld K (tVar 0) "points") (tVar 1)) (gName 2))
    (tRet (tCall sp_counted [] E0 (tCons (tLc (iList K (tMeth C_Session "others" sp_Session_others [] E0 (tVar 0) (tCons (tVar 1) (tCons (tVar 1) (tNil))))) (gName 3) (tB (tCall sp_is_heard [] E0 (tCons (tOp (rIxL K) (tFld K (tVar 0) "points") (tVar 3)) (tCons (tVar 2) (tNil))))) (tVar 3) [3]) (tNil)))))
abbrev N_Session_future : List Str := ["self", "i", "here", "k"]
/-- Session.future: slots self 0, i 1, here 2, k 3 -/
def t_Session_future (K : PySem.W.Frag) (C_Session : Addr) (a_GIVEN_COUNTS : Addr) (P_row_lengths : Addr) (P_most_apart : Addr) (P_clocks_for_all : Addr) (sp_counted : Sp) (sp_is_heard : Sp) (sp_Session_has : Sp) (sp_Session_others : Sp) : TS :=
  tSeq (tIfS (tNot (tB (tMeth C_Session "has" sp_Session_has [] E0 (tVar 0) (tCons (tVar 1) (tNil))))) (tRet (tLst (tCons (tC (.int (-2))) (tNil)))) (tNext))
    (tSeq (tAsg (tOp (rIxL K) (tFld K (tVar 0) "points") (tVar 1)) (gName 2))
    (tRet (tCall sp_counted [] E0 (tCons (tLc (iList K (tMeth C_Session "others" sp_Session_others [] E0 (tVar 0) (tCons (tVar 1) (tCons (tVar 1) (tNil))))) (gName 3) (tB (tCall sp_is_heard [] E0 (tCons (tVar 2) (tCons (tOp (rIxL K) (tFld K (tVar 0) "points") (tVar 3)) (tNil))))) (tVar 3) [3]) (tNil)))))
abbrev N_Session_between : List Str := ["self", "i", "j", "one", "two", "found", "k"]
/-- Session.between: slots self 0, i 1, j 2, one 3, two 4, found 5, k 6 -/
def t_Session_between (K : PySem.W.Frag) (C_Session : Addr) (a_GIVEN_COUNTS : Addr) (P_row_lengths : Addr) (P_most_apart : Addr) (P_clocks_for_all : Addr) (sp_is_heard : Sp) (sp_counted : Sp) (sp_Session_has : Sp) (sp_Session_others : Sp) : TS :=
  tSeq (tIfS (tNot (tAnd (tB (tMeth C_Session "has" sp_Session_has [] E0 (tVar 0) (tCons (tVar 1) (tNil)))) (tB (tMeth C_Session "has" sp_Session_has [] E0 (tVar 0) (tCons (tVar 2) (tNil)))))) (tRet (tLst (tCons (tC (.int (-2))) (tNil)))) (tNext))
    (tSeq (tAsg (tOp (rIxL K) (tFld K (tVar 0) "points") (tVar 1)) (gName 3))
    (tSeq (tAsg (tOp (rIxL K) (tFld K (tVar 0) "points") (tVar 2)) (gName 4))
    (tSeq (tAsg (tLst (tNil)) (gName 5))
    (tSeq (tFor (iList K (tMeth C_Session "others" sp_Session_others [] E0 (tVar 0) (tCons (tVar 1) (tCons (tVar 2) (tNil))))) (gName 6) (tIfS (tAnd (tB (tCall sp_is_heard [] E0 (tCons (tVar 3) (tCons (tOp (rIxL K) (tFld K (tVar 0) "points") (tVar 6)) (tNil))))) (tB (tCall sp_is_heard [] E0 (tCons (tOp (rIxL K) (tFld K (tVar 0) "points") (tVar 6)) (tCons (tVar 4) (tNil)))))) (tDrop (tBM K "list" rAppend (tVar 5) (tCons (tVar 6) (tNil)))) (tNext)))
    (tRet (tCall sp_counted [] E0 (tCons (tVar 5) (tNil))))))))
abbrev N_Session_aside : List Str := ["self", "i", "here", "k"]
/-- Session.aside: slots self 0, i 1, here 2, k 3 -/
def t_Session_aside (K : PySem.W.Frag) (C_Session : Addr) (a_GIVEN_COUNTS : Addr) (P_row_lengths : Addr) (P_most_apart : Addr) (P_clocks_for_all : Addr) (sp_counted : Sp) (sp_kind_of : Sp) (sp_Session_has : Sp) (sp_Session_others : Sp) : TS :=
  tSeq (tIfS (tNot (tB (tMeth C_Session "has" sp_Session_has [] E0 (tVar 0) (tCons (tVar 1) (tNil))))) (tRet (tLst (tCons (tC (.int (-2))) (tNil)))) (tNext))
    (tSeq (tAsg (tOp (rIxL K) (tFld K (tVar 0) "points") (tVar 1)) (gName 2))
    (tRet (tCall sp_counted [] E0 (tCons (tLc (iList K (tMeth C_Session "others" sp_Session_others [] E0 (tVar 0) (tCons (tVar 1) (tCons (tVar 1) (tNil))))) (gName 3) (tTest (tOp rEq (tCall sp_kind_of [] E0 (tCons (tVar 2) (tCons (tOp (rIxL K) (tFld K (tVar 0) "points") (tVar 3)) (tNil)))) (tC (.int (3))))) (tVar 3) [3]) (tNil)))))
abbrev N_Session_first : List Str := ["self", "i", "j"]
/-- Session.first: slots self 0, i 1, j 2 -/
def t_Session_first (K : PySem.W.Frag) (C_Session : Addr) (a_GIVEN_COUNTS : Addr) (P_row_lengths : Addr) (P_most_apart : Addr) (P_clocks_for_all : Addr) (sp_first_of : Sp) (sp_Session_has : Sp) : TS :=
  tSeq (tIfS (tNot (tAnd (tB (tMeth C_Session "has" sp_Session_has [] E0 (tVar 0) (tCons (tVar 1) (tNil)))) (tB (tMeth C_Session "has" sp_Session_has [] E0 (tVar 0) (tCons (tVar 2) (tNil)))))) (tRet (tLst (tCons (tC (.int (-2))) (tNil)))) (tNext))
    (tRet (tOp rCat (tLst (tCons (tC (.int 0)) (tNil))) (tCall sp_first_of [] E0 (tCons (tOp (rIxL K) (tFld K (tVar 0) "points") (tVar 1)) (tCons (tOp (rIxL K) (tFld K (tVar 0) "points") (tVar 2)) (tNil))))))
abbrev N_Session_last : List Str := ["self", "i", "j"]
/-- Session.last: slots self 0, i 1, j 2 -/
def t_Session_last (K : PySem.W.Frag) (C_Session : Addr) (a_GIVEN_COUNTS : Addr) (P_row_lengths : Addr) (P_most_apart : Addr) (P_clocks_for_all : Addr) (sp_last_of : Sp) (sp_Session_has : Sp) : TS :=
  tSeq (tIfS (tNot (tAnd (tB (tMeth C_Session "has" sp_Session_has [] E0 (tVar 0) (tCons (tVar 1) (tNil)))) (tB (tMeth C_Session "has" sp_Session_has [] E0 (tVar 0) (tCons (tVar 2) (tNil)))))) (tRet (tLst (tCons (tC (.int (-2))) (tNil)))) (tNext))
    (tRet (tOp rCat (tLst (tCons (tC (.int 0)) (tNil))) (tCall sp_last_of [] E0 (tCons (tOp (rIxL K) (tFld K (tVar 0) "points") (tVar 1)) (tCons (tOp (rIxL K) (tFld K (tVar 0) "points") (tVar 2)) (tNil))))))
abbrev N_Session_reach : List Str := ["self", "i", "t", "x"]
/-- Session.reach: slots self 0, i 1, t 2, x 3 -/
def t_Session_reach (K : PySem.W.Frag) (C_Session : Addr) (a_GIVEN_COUNTS : Addr) (P_row_lengths : Addr) (P_most_apart : Addr) (P_clocks_for_all : Addr) (sp_in_range : Sp) (sp_is_heard : Sp) (sp_Session_has : Sp) : TS :=
  tSeq (tIfS (tNot (tB (tMeth C_Session "has" sp_Session_has [] E0 (tVar 0) (tCons (tVar 1) (tNil))))) (tRet (tLst (tCons (tC (.int (-2))) (tNil)))) (tNext))
    (tSeq (tIfS (tNot (tAnd (tB (tCall sp_in_range [] E0 (tCons (tVar 2) (tNil)))) (tB (tCall sp_in_range [] E0 (tCons (tVar 3) (tNil)))))) (tRet (tLst (tCons (tC (.int (-22))) (tNil)))) (tNext))
    (tRet (tLst (tCons (tIf (tB (tCall sp_is_heard [] E0 (tCons (tOp (rIxL K) (tFld K (tVar 0) "points") (tVar 1)) (tCons (tTup (tCons (tVar 2) (tCons (tVar 3) (tNil)))) (tNil))))) (tC (.int 1)) (tC (.int 0))) (tNil)))))
abbrev N_Session_by : List Str := ["self", "i", "t", "here", "later"]
/-- Session.by: slots self 0, i 1, t 2, here 3, later 4 -/
def t_Session_by (K : PySem.W.Frag) (C_Session : Addr) (a_GIVEN_COUNTS : Addr) (P_row_lengths : Addr) (P_most_apart : Addr) (P_clocks_for_all : Addr) (sp_in_range : Sp) (sp_Session_has : Sp) : TS :=
  tSeq (tIfS (tNot (tB (tMeth C_Session "has" sp_Session_has [] E0 (tVar 0) (tCons (tVar 1) (tNil))))) (tRet (tLst (tCons (tC (.int (-2))) (tNil)))) (tNext))
    (tSeq (tIfS (tNot (tB (tCall sp_in_range [] E0 (tCons (tVar 2) (tNil))))) (tRet (tLst (tCons (tC (.int (-22))) (tNil)))) (tNext))
    (tSeq (tAsg (tOp (rIxL K) (tFld K (tVar 0) "points") (tVar 1)) (gName 3))
    (tSeq (tAsg (tOp rSub (tVar 2) (tOp (rIxT K) (tVar 3) (tC (.int 0)))) (gName 4))
    (tSeq (tIfS (tTest (tOp rLt (tVar 4) (tC (.int 0)))) (tRet (tLst (tCons (tC (.int (-33))) (tNil)))) (tNext))
    (tRet (tLst (tCons (tC (.int 0)) (tCons (tOp rSub (tOp (rIxT K) (tVar 3) (tC (.int 1))) (tVar 4)) (tCons (tOp rAdd (tOp (rIxT K) (tVar 3) (tC (.int 1))) (tVar 4)) (tNil))))))))))
abbrev N_Session_long : List Str := ["self", "i"]
/-- Session.long: slots self 0, i 1 -/
def t_Session_long (K : PySem.W.Frag) (C_Session : Addr) (a_GIVEN_COUNTS : Addr) (P_row_lengths : Addr) (P_most_apart : Addr) (P_clocks_for_all : Addr) (sp_row_lengths : Sp) (sp_Session_has : Sp) : TS :=
  tSeq (tIfS (tNot (tB (tMeth C_Session "has" sp_Session_has [] E0 (tVar 0) (tCons (tVar 1) (tNil))))) (tRet (tLst (tCons (tC (.int (-2))) (tNil)))) (tNext))
    (tRet (tLst (tCons (tOp (rIxL K) (tCall sp_row_lengths [] E0 (tCons (tFld K (tVar 0) "points") (tNil))) (tVar 1)) (tNil))))
abbrev N_Session_longest : List Str := ["self"]
/-- Session.longest: slots self 0 -/
def t_Session_longest (K : PySem.W.Frag) (C_Session : Addr) (a_GIVEN_COUNTS : Addr) (P_row_lengths : Addr) (P_most_apart : Addr) (P_clocks_for_all : Addr) (sp_longest_row : Sp) : TS :=
  tRet (tLst (tCons (tCall sp_longest_row [] E0 (tCons (tFld K (tVar 0) "points") (tNil))) (tNil)))
abbrev N_Session_clock : List Str := ["self"]
/-- Session.clock: slots self 0 -/
def t_Session_clock (K : PySem.W.Frag) (C_Session : Addr) (a_GIVEN_COUNTS : Addr) (P_row_lengths : Addr) (P_most_apart : Addr) (P_clocks_for_all : Addr) (sp_counted : Sp) (sp_clock_of : Sp) : TS :=
  tRet (tCall sp_counted [] E0 (tCons (tCall sp_clock_of [] E0 (tCons (tFld K (tVar 0) "points") (tNil))) (tNil)))
abbrev N_Session_most : List Str := ["self"]
/-- Session.most: slots self 0 -/
def t_Session_most (K : PySem.W.Frag) (C_Session : Addr) (a_GIVEN_COUNTS : Addr) (P_row_lengths : Addr) (P_most_apart : Addr) (P_clocks_for_all : Addr) (sp_most_apart : Sp) : TS :=
  tRet (tLst (tCons (tCall sp_most_apart [] E0 (tCons (tFld K (tVar 0) "points") (tNil))) (tNil)))
abbrev N_Session_clocks : List Str := ["self", "found", "told", "clock"]
/-- Session.clocks: slots self 0, found 1, told 2, clock 3 -/
def t_Session_clocks (K : PySem.W.Frag) (C_Session : Addr) (a_GIVEN_COUNTS : Addr) (P_row_lengths : Addr) (P_most_apart : Addr) (P_clocks_for_all : Addr) (sp_clocks_for_all : Sp) (sp_counted : Sp) : TS :=
  tSeq (tAsg (tCall sp_clocks_for_all [] E0 (tCons (tFld K (tVar 0) "points") (tNil))) (gName 1))
    (tSeq (tAsg (tLst (tCons (tCB (rLen K) (tCons (tVar 1) (tNil))) (tNil))) (gName 2))
    (tSeq (tFor (iList K (tVar 1)) (gName 3) (tDrop (tBM K "list" rExtend (tVar 2) (tCons (tCall sp_counted [] E0 (tCons (tVar 3) (tNil))) (tNil)))))
    (tRet (tVar 2))))
abbrev N_change : List Str := ["session", "number", "given"]
/-- change: slots session 0, number 1, given 2 -/
def t_change (K : PySem.W.Frag) (C_Session : Addr) (a_GIVEN_COUNTS : Addr) (P_row_lengths : Addr) (P_most_apart : Addr) (P_clocks_for_all : Addr) (sp_Session_put : Sp) (sp_Session_drop : Sp) (sp_Session_move : Sp) (sp_Session_turn : Sp) : TS :=
  tSeq (tIfS (tTest (tOp rEq (tVar 1) (tC (.int (1))))) (tRet (tMeth C_Session "put" sp_Session_put [] E0 (tVar 0) (tCons (tOp (rIxL K) (tVar 2) (tC (.int 0))) (tCons (tOp (rIxL K) (tVar 2) (tC (.int 1))) (tNil))))) (tNext))
    (tSeq (tIfS (tTest (tOp rEq (tVar 1) (tC (.int (2))))) (tRet (tMeth C_Session "drop" sp_Session_drop [] E0 (tVar 0) (tCons (tOp (rIxL K) (tVar 2) (tC (.int 0))) (tNil)))) (tNext))
    (tSeq (tIfS (tTest (tOp rEq (tVar 1) (tC (.int (3))))) (tRet (tMeth C_Session "move" sp_Session_move [] E0 (tVar 0) (tCons (tOp (rIxL K) (tVar 2) (tC (.int 0))) (tCons (tOp (rIxL K) (tVar 2) (tC (.int 1))) (tCons (tOp (rIxL K) (tVar 2) (tC (.int 2))) (tNil)))))) (tNext))
    (tRet (tMeth C_Session "turn" sp_Session_turn [] E0 (tVar 0) tNil))))
abbrev N_tell_heard : List Str := ["session", "number", "given"]
/-- tell_heard: slots session 0, number 1, given 2 -/
def t_tell_heard (K : PySem.W.Frag) (C_Session : Addr) (a_GIVEN_COUNTS : Addr) (P_row_lengths : Addr) (P_most_apart : Addr) (P_clocks_for_all : Addr) (sp_Session_heard : Sp) (sp_Session_kind : Sp) (sp_Session_square : Sp) (sp_Session_past : Sp) (sp_Session_future : Sp) (sp_Session_between : Sp) (sp_Session_aside : Sp) : TS :=
  tSeq (tIfS (tTest (tOp rEq (tVar 1) (tC (.int (6))))) (tRet (tMeth C_Session "heard" sp_Session_heard [] E0 (tVar 0) (tCons (tOp (rIxL K) (tVar 2) (tC (.int 0))) (tCons (tOp (rIxL K) (tVar 2) (tC (.int 1))) (tNil))))) (tNext))
    (tSeq (tIfS (tTest (tOp rEq (tVar 1) (tC (.int (7))))) (tRet (tMeth C_Session "kind" sp_Session_kind [] E0 (tVar 0) (tCons (tOp (rIxL K) (tVar 2) (tC (.int 0))) (tCons (tOp (rIxL K) (tVar 2) (tC (.int 1))) (tNil))))) (tNext))
    (tSeq (tIfS (tTest (tOp rEq (tVar 1) (tC (.int (8))))) (tRet (tMeth C_Session "square" sp_Session_square [] E0 (tVar 0) (tCons (tOp (rIxL K) (tVar 2) (tC (.int 0))) (tCons (tOp (rIxL K) (tVar 2) (tC (.int 1))) (tNil))))) (tNext))
    (tSeq (tIfS (tTest (tOp rEq (tVar 1) (tC (.int (9))))) (tRet (tMeth C_Session "past" sp_Session_past [] E0 (tVar 0) (tCons (tOp (rIxL K) (tVar 2) (tC (.int 0))) (tNil)))) (tNext))
    (tSeq (tIfS (tTest (tOp rEq (tVar 1) (tC (.int (10))))) (tRet (tMeth C_Session "future" sp_Session_future [] E0 (tVar 0) (tCons (tOp (rIxL K) (tVar 2) (tC (.int 0))) (tNil)))) (tNext))
    (tSeq (tIfS (tTest (tOp rEq (tVar 1) (tC (.int (11))))) (tRet (tMeth C_Session "between" sp_Session_between [] E0 (tVar 0) (tCons (tOp (rIxL K) (tVar 2) (tC (.int 0))) (tCons (tOp (rIxL K) (tVar 2) (tC (.int 1))) (tNil))))) (tNext))
    (tRet (tMeth C_Session "aside" sp_Session_aside [] E0 (tVar 0) (tCons (tOp (rIxL K) (tVar 2) (tC (.int 0))) (tNil)))))))))
abbrev N_tell_light : List Str := ["session", "number", "given"]
/-- tell_light: slots session 0, number 1, given 2 -/
def t_tell_light (K : PySem.W.Frag) (C_Session : Addr) (a_GIVEN_COUNTS : Addr) (P_row_lengths : Addr) (P_most_apart : Addr) (P_clocks_for_all : Addr) (sp_Session_first : Sp) (sp_Session_last : Sp) (sp_Session_reach : Sp) (sp_Session_by : Sp) : TS :=
  tSeq (tIfS (tTest (tOp rEq (tVar 1) (tC (.int (13))))) (tRet (tMeth C_Session "first" sp_Session_first [] E0 (tVar 0) (tCons (tOp (rIxL K) (tVar 2) (tC (.int 0))) (tCons (tOp (rIxL K) (tVar 2) (tC (.int 1))) (tNil))))) (tNext))
    (tSeq (tIfS (tTest (tOp rEq (tVar 1) (tC (.int (14))))) (tRet (tMeth C_Session "last" sp_Session_last [] E0 (tVar 0) (tCons (tOp (rIxL K) (tVar 2) (tC (.int 0))) (tCons (tOp (rIxL K) (tVar 2) (tC (.int 1))) (tNil))))) (tNext))
    (tSeq (tIfS (tTest (tOp rEq (tVar 1) (tC (.int (15))))) (tRet (tMeth C_Session "reach" sp_Session_reach [] E0 (tVar 0) (tCons (tOp (rIxL K) (tVar 2) (tC (.int 0))) (tCons (tOp (rIxL K) (tVar 2) (tC (.int 1))) (tCons (tOp (rIxL K) (tVar 2) (tC (.int 2))) (tNil)))))) (tNext))
    (tRet (tMeth C_Session "by" sp_Session_by [] E0 (tVar 0) (tCons (tOp (rIxL K) (tVar 2) (tC (.int 0))) (tCons (tOp (rIxL K) (tVar 2) (tC (.int 1))) (tNil)))))))
abbrev N_tell_rows : List Str := ["session", "number", "given"]
/-- tell_rows: slots session 0, number 1, given 2 -/
def t_tell_rows (K : PySem.W.Frag) (C_Session : Addr) (a_GIVEN_COUNTS : Addr) (P_row_lengths : Addr) (P_most_apart : Addr) (P_clocks_for_all : Addr) (sp_Session_long : Sp) (sp_Session_longest : Sp) (sp_Session_clock : Sp) (sp_Session_most : Sp) (sp_Session_clocks : Sp) : TS :=
  tSeq (tIfS (tTest (tOp rEq (tVar 1) (tC (.int (17))))) (tRet (tMeth C_Session "long" sp_Session_long [] E0 (tVar 0) (tCons (tOp (rIxL K) (tVar 2) (tC (.int 0))) (tNil)))) (tNext))
    (tSeq (tIfS (tTest (tOp rEq (tVar 1) (tC (.int (18))))) (tRet (tMeth C_Session "longest" sp_Session_longest [] E0 (tVar 0) tNil)) (tNext))
    (tSeq (tIfS (tTest (tOp rEq (tVar 1) (tC (.int (19))))) (tRet (tMeth C_Session "clock" sp_Session_clock [] E0 (tVar 0) tNil)) (tNext))
    (tSeq (tIfS (tTest (tOp rEq (tVar 1) (tC (.int (20))))) (tRet (tMeth C_Session "most" sp_Session_most [] E0 (tVar 0) tNil)) (tNext))
    (tRet (tMeth C_Session "clocks" sp_Session_clocks [] E0 (tVar 0) tNil)))))
abbrev N_answer : List Str := ["session", "number", "given"]
/-- answer: slots session 0, number 1, given 2 -/
def t_answer (K : PySem.W.Frag) (C_Session : Addr) (a_GIVEN_COUNTS : Addr) (P_row_lengths : Addr) (P_most_apart : Addr) (P_clocks_for_all : Addr) (sp_change : Sp) (sp_tell_heard : Sp) (sp_tell_light : Sp) (sp_tell_rows : Sp) (sp_Session_begin : Sp) (sp_Session_events : Sp) (sp_Session_back : Sp) (sp_Session_state : Sp) : TS :=
  tSeq (tIfS (tTest (tOp rEq (tVar 1) (tC (.int (0))))) (tRet (tMeth C_Session "begin" sp_Session_begin [] E0 (tVar 0) tNil)) (tNext))
    (tSeq (tIfS (tNot (tB (tFld K (tVar 0) "begun"))) (tRet (tLst (tCons (tC (.int (-11))) (tNil)))) (tNext))
    (tSeq (tIfS (tTest (tOp rLe (tVar 1) (tC (.int (4))))) (tRet (tCall sp_change [] E0 (tCons (tVar 0) (tCons (tVar 1) (tCons (tVar 2) (tNil)))))) (tNext))
    (tSeq (tIfS (tTest (tOp rEq (tVar 1) (tC (.int (5))))) (tRet (tMeth C_Session "events" sp_Session_events [] E0 (tVar 0) tNil)) (tNext))
    (tSeq (tIfS (tTest (tOp rLe (tVar 1) (tC (.int (12))))) (tRet (tCall sp_tell_heard [] E0 (tCons (tVar 0) (tCons (tVar 1) (tCons (tVar 2) (tNil)))))) (tNext))
    (tSeq (tIfS (tTest (tOp rLe (tVar 1) (tC (.int (16))))) (tRet (tCall sp_tell_light [] E0 (tCons (tVar 0) (tCons (tVar 1) (tCons (tVar 2) (tNil)))))) (tNext))
    (tSeq (tIfS (tTest (tOp rLe (tVar 1) (tC (.int (21))))) (tRet (tCall sp_tell_rows [] E0 (tCons (tVar 0) (tCons (tVar 1) (tCons (tVar 2) (tNil)))))) (tNext))
    (tSeq (tIfS (tTest (tOp rEq (tVar 1) (tC (.int (22))))) (tRet (tMeth C_Session "back" sp_Session_back [] E0 (tVar 0) tNil)) (tNext))
    (tRet (tMeth C_Session "state" sp_Session_state [] E0 (tVar 0) tNil)))))))))
abbrev N_answers : List Str := ["calls", "session", "told", "at", "number", "end"]
/-- answers: slots calls 0, session 1, told 2, at 3, number 4, end 5 -/
def t_answers (K : PySem.W.Frag) (C_Session : Addr) (a_GIVEN_COUNTS : Addr) (P_row_lengths : Addr) (P_most_apart : Addr) (P_clocks_for_all : Addr) (sp_counted : Sp) (sp_answer : Sp) (sp_Session_init : Sp) : TS :=
  tSeq (tAsg (tMake C_Session sp_Session_init [] E0 tNil) (gName 1))
    (tSeq (tAsg (tLst (tNil)) (gName 2))
    (tSeq (tAsg (tC (.int 0)) (gName 3))
    (tSeq (tWhile (tTest (tOp rLt (tVar 3) (tCB (rLen K) (tCons (tVar 0) (tNil))))) (tSeq (tAsg (tOp (rIxL K) (tVar 0) (tVar 3)) (gName 4))
    (tSeq (tAsg (tOp rAdd (tOp rAdd (tVar 3) (tC (.int 1))) (tOp (rIxT K) (tC (.ref a_GIVEN_COUNTS)) (tVar 4))) (gName 5))
    (tSeq (tDrop (tBM K "list" rExtend (tVar 2) (tCons (tCall sp_counted [] E0 (tCons (tCall sp_answer [] E0 (tCons (tVar 1) (tCons (tVar 4) (tCons (tSl (rSlL K) (tVar 0) (tPart (tOp rAdd (tVar 3) (tC (.int 1)))) (tPart (tVar 5))) (tNil))))) (tNil))) (tNil))))
    (tAsg (tVar 5) (gName 3))))))
    (tRet (tVar 2)))))
section
variable {P : Program} {w : World} {K : PySem.W.Frag} {mg : Str → Option Value} {base : Heap} {C_Session : Addr} {a_GIVEN_COUNTS : Addr} {P_row_lengths : Addr} {P_most_apart : Addr} {P_clocks_for_all : Addr}
theorem sc_is_heard : FnScope N_is_heard ["one", "two"] (defScope s_is_heard) := ⟨rfl, rfl, rfl, by decide +kernel, rfl, by decide +kernel, by decide +kernel⟩
theorem ok_is_heard {f : Addr} {fd : FuncData} {sp : Sp} (F : Fun K "is_heard" "is_heard" s_is_heard f fd) (T : Txt K mg C_Session a_GIVEN_COUNTS P_row_lengths P_most_apart P_clocks_for_all)
    (len : ∀ vs H Q E, sp vs H Q E → vs.length = 2) (pure : ∀ vs H Q E, sp vs H Q E → t_is_heard K C_Session a_GIVEN_COUNTS P_row_lengths P_most_apart P_clocks_for_all { nx := fun _ H' => Q .non H', rt := Q } (start N_is_heard vs) H) :
    FnOk P w K mg base CX0 1 f fd ["one", "two"] sp := by
  refine F.ok sc_is_heard len (fun cdv A outer s H vs Q E hr h => ⟨t_is_heard K C_Session a_GIVEN_COUNTS P_row_lengths P_most_apart P_clocks_for_all, ?_, pure vs H Q E h⟩)
  exact pss_cons (ps_set (i := 2) sc_is_heard.nd rfl (Or.inl rfl) (pe_op op_sub (pe_ix ix_tup (pv 1) (pe_int) (fun _ _ => rfl)) (pe_ix ix_tup (pv 0) (pe_int) (fun _ _ => rfl))))
      (pss_one (ps_ret (pe_cmpR op_ge (pv 2) (pe_callB call_abs (by rfl) T.n_abs (by decide +kernel) (pa_cons (pe_op op_sub (pe_ix ix_tup (pv 1) (pe_int) (fun _ _ => rfl)) (pe_ix ix_tup (pv 0) (pe_int) (fun _ _ => rfl))) (pa_nil))) (nomark _))))
theorem sc_is_apart_below : FnScope N_is_apart_below ["one", "two"] (defScope s_is_apart_below) := ⟨rfl, rfl, rfl, by decide +kernel, rfl, by decide +kernel, by decide +kernel⟩
theorem ok_is_apart_below {f : Addr} {fd : FuncData} {sp : Sp} (F : Fun K "is_apart_below" "is_apart_below" s_is_apart_below f fd) (T : Txt K mg C_Session a_GIVEN_COUNTS P_row_lengths P_most_apart P_clocks_for_all)
    (len : ∀ vs H Q E, sp vs H Q E → vs.length = 2) (pure : ∀ vs H Q E, sp vs H Q E → t_is_apart_below K C_Session a_GIVEN_COUNTS P_row_lengths P_most_apart P_clocks_for_all { nx := fun _ H' => Q .non H', rt := Q } (start N_is_apart_below vs) H) :
    FnOk P w K mg base CX0 1 f fd ["one", "two"] sp := by
  refine F.ok sc_is_apart_below len (fun cdv A outer s H vs Q E hr h => ⟨t_is_apart_below K C_Session a_GIVEN_COUNTS P_row_lengths P_most_apart P_clocks_for_all, ?_, pure vs H Q E h⟩)
  exact pss_one (ps_ret (pe_cmpR op_gt (pe_op op_sub (pe_ix ix_tup (pv 1) (pe_int) (fun _ _ => rfl)) (pe_ix ix_tup (pv 0) (pe_int) (fun _ _ => rfl))) (pe_callB call_abs (by rfl) T.n_abs (by decide +kernel) (pa_cons (pe_op op_sub (pe_ix ix_tup (pv 1) (pe_int) (fun _ _ => rfl)) (pe_ix ix_tup (pv 0) (pe_int) (fun _ _ => rfl))) (pa_nil))) (nomark _)))
theorem sc_square_of : FnScope N_square_of ["one", "two"] (defScope s_square_of) := ⟨rfl, rfl, rfl, by decide +kernel, rfl, by decide +kernel, by decide +kernel⟩
theorem ok_square_of {f : Addr} {fd : FuncData} {sp : Sp} (F : Fun K "square_of" "square_of" s_square_of f fd) (T : Txt K mg C_Session a_GIVEN_COUNTS P_row_lengths P_most_apart P_clocks_for_all)
    (len : ∀ vs H Q E, sp vs H Q E → vs.length = 2) (pure : ∀ vs H Q E, sp vs H Q E → t_square_of K C_Session a_GIVEN_COUNTS P_row_lengths P_most_apart P_clocks_for_all { nx := fun _ H' => Q .non H', rt := Q } (start N_square_of vs) H) :
    FnOk P w K mg base CX0 1 f fd ["one", "two"] sp := by
  refine F.ok sc_square_of len (fun cdv A outer s H vs Q E hr h => ⟨t_square_of K C_Session a_GIVEN_COUNTS P_row_lengths P_most_apart P_clocks_for_all, ?_, pure vs H Q E h⟩)
  exact pss_cons (ps_set (i := 2) sc_square_of.nd rfl (Or.inl rfl) (pe_op op_sub (pe_ix ix_tup (pv 1) (pe_int) (fun _ _ => rfl)) (pe_ix ix_tup (pv 0) (pe_int) (fun _ _ => rfl))))
      (pss_cons (ps_set (i := 3) sc_square_of.nd rfl (Or.inl rfl) (pe_op op_sub (pe_ix ix_tup (pv 1) (pe_int) (fun _ _ => rfl)) (pe_ix ix_tup (pv 0) (pe_int) (fun _ _ => rfl))))
      (pss_one (ps_ret (pe_op op_sub (pe_op op_mul (pv 2) (pv 2)) (pe_op op_mul (pv 3) (pv 3))))))
theorem sc_kind_of : FnScope N_kind_of ["one", "two"] (defScope s_kind_of) := ⟨rfl, rfl, rfl, by decide +kernel, rfl, by decide +kernel, by decide +kernel⟩
theorem ok_kind_of {f : Addr} {fd : FuncData} {sp : Sp} (F : Fun K "kind_of" "kind_of" s_kind_of f fd) (T : Txt K mg C_Session a_GIVEN_COUNTS P_row_lengths P_most_apart P_clocks_for_all) {sp_square_of : Sp} (h_square_of : Df P w K mg base "square_of" 1 ["one", "two"] sp_square_of) {sp_is_heard : Sp} (h_is_heard : Df P w K mg base "is_heard" 1 ["one", "two"] sp_is_heard)
    (len : ∀ vs H Q E, sp vs H Q E → vs.length = 2) (pure : ∀ vs H Q E, sp vs H Q E → t_kind_of K C_Session a_GIVEN_COUNTS P_row_lengths P_most_apart P_clocks_for_all sp_square_of sp_is_heard { nx := fun _ H' => Q .non H', rt := Q } (start N_kind_of vs) H) :
    FnOk P w K mg base CX0 2 f fd ["one", "two"] sp := by
  obtain ⟨_, _, G_square_of, m_square_of, k_square_of, b_square_of⟩ := h_square_of.ex
  obtain ⟨_, _, G_is_heard, m_is_heard, k_is_heard, b_is_heard⟩ := h_is_heard.ex
  refine F.ok sc_kind_of len (fun cdv A outer s H vs Q E hr h => ⟨t_kind_of K C_Session a_GIVEN_COUNTS P_row_lengths P_most_apart P_clocks_for_all sp_square_of sp_is_heard, ?_, pure vs H Q E h⟩)
  exact pss_cons (ps_if (pt_cmpR (op_eqD (hu64 hr)) (pv 0) (pv 1) (nomark _)) (pss_one (ps_ret (pe_glob (by rfl) (T.g_SAME).choose_spec ⟨_, rfl⟩))) (pss_nil))
      (pss_cons (ps_set (i := 2) sc_kind_of.nd rfl (Or.inl rfl) (pe_cmpR op_eq (pe_call G_square_of (hr.mono (by decide)) (by rfl) m_square_of k_square_of b_square_of .nil pass0 (pa_cons (pv 0) (pa_cons (pv 1) (pa_nil)))) (pe_int) (nomark _)))
      (pss_cons (ps_if (pt_val (pe_call G_is_heard (hr.mono (by decide)) (by rfl) m_is_heard k_is_heard b_is_heard .nil pass0 (pa_cons (pv 0) (pa_cons (pv 1) (pa_nil))))) (pss_one (ps_ret (pe_ifExp (pt_val (pv 2)) (pe_glob (by rfl) (T.g_HEARD_BY_LIGHT).choose_spec ⟨_, rfl⟩) (pe_glob (by rfl) (T.g_HEARD_SLOWER).choose_spec ⟨_, rfl⟩)))) (pss_nil))
      (pss_cons (ps_if (pt_val (pe_call G_is_heard (hr.mono (by decide)) (by rfl) m_is_heard k_is_heard b_is_heard .nil pass0 (pa_cons (pv 1) (pa_cons (pv 0) (pa_nil))))) (pss_one (ps_ret (pe_ifExp (pt_val (pv 2)) (pe_glob (by rfl) (T.g_HEARS_BY_LIGHT).choose_spec ⟨_, rfl⟩) (pe_glob (by rfl) (T.g_HEARS_SLOWER).choose_spec ⟨_, rfl⟩)))) (pss_nil))
      (pss_one (ps_ret (pe_glob (by rfl) (T.g_NEITHER).choose_spec ⟨_, rfl⟩))))))
theorem sc_time_less_place : FnScope N_time_less_place ["point"] (defScope s_time_less_place) := ⟨rfl, rfl, rfl, by decide +kernel, rfl, by decide +kernel, by decide +kernel⟩
theorem ok_time_less_place {f : Addr} {fd : FuncData} {sp : Sp} (F : Fun K "time_less_place" "time_less_place" s_time_less_place f fd) (T : Txt K mg C_Session a_GIVEN_COUNTS P_row_lengths P_most_apart P_clocks_for_all)
    (len : ∀ vs H Q E, sp vs H Q E → vs.length = 1) (pure : ∀ vs H Q E, sp vs H Q E → t_time_less_place K C_Session a_GIVEN_COUNTS P_row_lengths P_most_apart P_clocks_for_all { nx := fun _ H' => Q .non H', rt := Q } (start N_time_less_place vs) H) :
    FnOk P w K mg base CX0 1 f fd ["point"] sp := by
  refine F.ok sc_time_less_place len (fun cdv A outer s H vs Q E hr h => ⟨t_time_less_place K C_Session a_GIVEN_COUNTS P_row_lengths P_most_apart P_clocks_for_all, ?_, pure vs H Q E h⟩)
  exact pss_one (ps_ret (pe_op op_sub (pe_ix ix_tup (pv 0) (pe_int) (fun _ _ => rfl)) (pe_ix ix_tup (pv 0) (pe_int) (fun _ _ => rfl))))
theorem sc_time_and_place : FnScope N_time_and_place ["point"] (defScope s_time_and_place) := ⟨rfl, rfl, rfl, by decide +kernel, rfl, by decide +kernel, by decide +kernel⟩
theorem ok_time_and_place {f : Addr} {fd : FuncData} {sp : Sp} (F : Fun K "time_and_place" "time_and_place" s_time_and_place f fd) (T : Txt K mg C_Session a_GIVEN_COUNTS P_row_lengths P_most_apart P_clocks_for_all)
    (len : ∀ vs H Q E, sp vs H Q E → vs.length = 1) (pure : ∀ vs H Q E, sp vs H Q E → t_time_and_place K C_Session a_GIVEN_COUNTS P_row_lengths P_most_apart P_clocks_for_all { nx := fun _ H' => Q .non H', rt := Q } (start N_time_and_place vs) H) :
    FnOk P w K mg base CX0 1 f fd ["point"] sp := by
  refine F.ok sc_time_and_place len (fun cdv A outer s H vs Q E hr h => ⟨t_time_and_place K C_Session a_GIVEN_COUNTS P_row_lengths P_most_apart P_clocks_for_all, ?_, pure vs H Q E h⟩)
  exact pss_one (ps_ret (pe_op op_add (pe_ix ix_tup (pv 0) (pe_int) (fun _ _ => rfl)) (pe_ix ix_tup (pv 0) (pe_int) (fun _ _ => rfl))))
theorem sc_halves : FnScope N_halves ["number"] (defScope s_halves) := ⟨rfl, rfl, rfl, by decide +kernel, rfl, by decide +kernel, by decide +kernel⟩
theorem ok_halves {f : Addr} {fd : FuncData} {sp : Sp} (F : Fun K "halves" "halves" s_halves f fd) (T : Txt K mg C_Session a_GIVEN_COUNTS P_row_lengths P_most_apart P_clocks_for_all)
    (len : ∀ vs H Q E, sp vs H Q E → vs.length = 1) (pure : ∀ vs H Q E, sp vs H Q E → t_halves K C_Session a_GIVEN_COUNTS P_row_lengths P_most_apart P_clocks_for_all { nx := fun _ H' => Q .non H', rt := Q } (start N_halves vs) H) :
    FnOk P w K mg base CX0 1 f fd ["number"] sp := by
  refine F.ok sc_halves len (fun cdv A outer s H vs Q E hr h => ⟨t_halves K C_Session a_GIVEN_COUNTS P_row_lengths P_most_apart P_clocks_for_all, ?_, pure vs H Q E h⟩)
  exact pss_cons (ps_if (pt_cmpR op_eq (pe_op op_mod (pv 0) (pe_int)) (pe_int) (nomark _)) (pss_one (ps_ret (pe_lst (pa_cons (pe_op op_fdiv (pv 0) (pe_int)) (pa_cons (pe_int) (pa_nil)))))) (pss_nil))
      (pss_one (ps_ret (pe_lst (pa_cons (pv 0) (pa_cons (pe_int) (pa_nil))))))
theorem sc_crossing : FnScope N_crossing ["less", "both"] (defScope s_crossing) := ⟨rfl, rfl, rfl, by decide +kernel, rfl, by decide +kernel, by decide +kernel⟩
theorem ok_crossing {f : Addr} {fd : FuncData} {sp : Sp} (F : Fun K "crossing" "crossing" s_crossing f fd) (T : Txt K mg C_Session a_GIVEN_COUNTS P_row_lengths P_most_apart P_clocks_for_all) {sp_halves : Sp} (h_halves : Df P w K mg base "halves" 1 ["number"] sp_halves)
    (len : ∀ vs H Q E, sp vs H Q E → vs.length = 2) (pure : ∀ vs H Q E, sp vs H Q E → t_crossing K C_Session a_GIVEN_COUNTS P_row_lengths P_most_apart P_clocks_for_all sp_halves { nx := fun _ H' => Q .non H', rt := Q } (start N_crossing vs) H) :
    FnOk P w K mg base CX0 2 f fd ["less", "both"] sp := by
  obtain ⟨_, _, G_halves, m_halves, k_halves, b_halves⟩ := h_halves.ex
  refine F.ok sc_crossing len (fun cdv A outer s H vs Q E hr h => ⟨t_crossing K C_Session a_GIVEN_COUNTS P_row_lengths P_most_apart P_clocks_for_all sp_halves, ?_, pure vs H Q E h⟩)
  exact pss_one (ps_ret (pe_op op_cat (pe_call G_halves (hr.mono (by decide)) (by rfl) m_halves k_halves b_halves .nil pass0 (pa_cons (pe_op op_add (pv 1) (pv 0)) (pa_nil))) (pe_call G_halves (hr.mono (by decide)) (by rfl) m_halves k_halves b_halves .nil pass0 (pa_cons (pe_op op_sub (pv 1) (pv 0)) (pa_nil)))))
theorem sc_first_of : FnScope N_first_of ["one", "two"] (defScope s_first_of) := ⟨rfl, rfl, rfl, by decide +kernel, rfl, by decide +kernel, by decide +kernel⟩
theorem ok_first_of {f : Addr} {fd : FuncData} {sp : Sp} (F : Fun K "first_of" "first_of" s_first_of f fd) (T : Txt K mg C_Session a_GIVEN_COUNTS P_row_lengths P_most_apart P_clocks_for_all) {sp_crossing : Sp} (h_crossing : Df P w K mg base "crossing" 2 ["less", "both"] sp_crossing) {sp_time_and_place : Sp} (h_time_and_place : Df P w K mg base "time_and_place" 1 ["point"] sp_time_and_place) {sp_time_less_place : Sp} (h_time_less_place : Df P w K mg base "time_less_place" 1 ["point"] sp_time_less_place)
    (len : ∀ vs H Q E, sp vs H Q E → vs.length = 2) (pure : ∀ vs H Q E, sp vs H Q E → t_first_of K C_Session a_GIVEN_COUNTS P_row_lengths P_most_apart P_clocks_for_all sp_crossing sp_time_and_place sp_time_less_place { nx := fun _ H' => Q .non H', rt := Q } (start N_first_of vs) H) :
    FnOk P w K mg base CX0 3 f fd ["one", "two"] sp := by
  obtain ⟨_, _, G_crossing, m_crossing, k_crossing, b_crossing⟩ := h_crossing.ex
  obtain ⟨_, _, G_time_and_place, m_time_and_place, k_time_and_place, b_time_and_place⟩ := h_time_and_place.ex
  obtain ⟨_, _, G_time_less_place, m_time_less_place, k_time_less_place, b_time_less_place⟩ := h_time_less_place.ex
  refine F.ok sc_first_of len (fun cdv A outer s H vs Q E hr h => ⟨t_first_of K C_Session a_GIVEN_COUNTS P_row_lengths P_most_apart P_clocks_for_all sp_crossing sp_time_and_place sp_time_less_place, ?_, pure vs H Q E h⟩)
  exact pss_one (ps_ret (pe_call G_crossing (hr.mono (by decide)) (by rfl) m_crossing k_crossing b_crossing .nil pass0 (pa_cons (pe_callB (call_max2 rfl) (by rfl) T.n_max (by decide +kernel) (pa_cons (pe_call G_time_less_place (hr.mono (by decide)) (by rfl) m_time_less_place k_time_less_place b_time_less_place .nil pass0 (pa_cons (pv 0) (pa_nil))) (pa_cons (pe_call G_time_less_place (hr.mono (by decide)) (by rfl) m_time_less_place k_time_less_place b_time_less_place .nil pass0 (pa_cons (pv 1) (pa_nil))) (pa_nil)))) (pa_cons (pe_callB (call_max2 rfl) (by rfl) T.n_max (by decide +kernel) (pa_cons (pe_call G_time_and_place (hr.mono (by decide)) (by rfl) m_time_and_place k_time_and_place b_time_and_place .nil pass0 (pa_cons (pv 0) (pa_nil))) (pa_cons (pe_call G_time_and_place (hr.mono (by decide)) (by rfl) m_time_and_place k_time_and_place b_time_and_place .nil pass0 (pa_cons (pv 1) (pa_nil))) (pa_nil)))) (pa_nil)))))
theorem sc_last_of : FnScope N_last_of ["one", "two"] (defScope s_last_of) := ⟨rfl, rfl, rfl, by decide +kernel, rfl, by decide +kernel, by decide +kernel⟩
theorem ok_last_of {f : Addr} {fd : FuncData} {sp : Sp} (F : Fun K "last_of" "last_of" s_last_of f fd) (T : Txt K mg C_Session a_GIVEN_COUNTS P_row_lengths P_most_apart P_clocks_for_all) {sp_crossing : Sp} (h_crossing : Df P w K mg base "crossing" 2 ["less", "both"] sp_crossing) {sp_time_and_place : Sp} (h_time_and_place : Df P w K mg base "time_and_place" 1 ["point"] sp_time_and_place) {sp_time_less_place : Sp} (h_time_less_place : Df P w K mg base "time_less_place" 1 ["point"] sp_time_less_place)
    (len : ∀ vs H Q E, sp vs H Q E → vs.length = 2) (pure : ∀ vs H Q E, sp vs H Q E → t_last_of K C_Session a_GIVEN_COUNTS P_row_lengths P_most_apart P_clocks_for_all sp_crossing sp_time_and_place sp_time_less_place { nx := fun _ H' => Q .non H', rt := Q } (start N_last_of vs) H) :
    FnOk P w K mg base CX0 3 f fd ["one", "two"] sp := by
  obtain ⟨_, _, G_crossing, m_crossing, k_crossing, b_crossing⟩ := h_crossing.ex
  obtain ⟨_, _, G_time_and_place, m_time_and_place, k_time_and_place, b_time_and_place⟩ := h_time_and_place.ex
  obtain ⟨_, _, G_time_less_place, m_time_less_place, k_time_less_place, b_time_less_place⟩ := h_time_less_place.ex
  refine F.ok sc_last_of len (fun cdv A outer s H vs Q E hr h => ⟨t_last_of K C_Session a_GIVEN_COUNTS P_row_lengths P_most_apart P_clocks_for_all sp_crossing sp_time_and_place sp_time_less_place, ?_, pure vs H Q E h⟩)
  exact pss_one (ps_ret (pe_call G_crossing (hr.mono (by decide)) (by rfl) m_crossing k_crossing b_crossing .nil pass0 (pa_cons (pe_callB (call_min2 rfl) (by rfl) T.n_min (by decide +kernel) (pa_cons (pe_call G_time_less_place (hr.mono (by decide)) (by rfl) m_time_less_place k_time_less_place b_time_less_place .nil pass0 (pa_cons (pv 0) (pa_nil))) (pa_cons (pe_call G_time_less_place (hr.mono (by decide)) (by rfl) m_time_less_place k_time_less_place b_time_less_place .nil pass0 (pa_cons (pv 1) (pa_nil))) (pa_nil)))) (pa_cons (pe_callB (call_min2 rfl) (by rfl) T.n_min (by decide +kernel) (pa_cons (pe_call G_time_and_place (hr.mono (by decide)) (by rfl) m_time_and_place k_time_and_place b_time_and_place .nil pass0 (pa_cons (pv 0) (pa_nil))) (pa_cons (pe_call G_time_and_place (hr.mono (by decide)) (by rfl) m_time_and_place k_time_and_place b_time_and_place .nil pass0 (pa_cons (pv 1) (pa_nil))) (pa_nil)))) (pa_nil)))))
theorem sc_may_go_on : FnScope N_may_go_on ["points", "k", "i"] (defScope s_may_go_on) := ⟨rfl, rfl, rfl, by decide +kernel, rfl, by decide +kernel, by decide +kernel⟩
theorem ok_may_go_on {f : Addr} {fd : FuncData} {sp : Sp} (F : Fun K "may_go_on" "may_go_on" s_may_go_on f fd) (T : Txt K mg C_Session a_GIVEN_COUNTS P_row_lengths P_most_apart P_clocks_for_all) {sp_is_heard : Sp} (h_is_heard : Df P w K mg base "is_heard" 1 ["one", "two"] sp_is_heard)
    (len : ∀ vs H Q E, sp vs H Q E → vs.length = 3) (pure : ∀ vs H Q E, sp vs H Q E → t_may_go_on K C_Session a_GIVEN_COUNTS P_row_lengths P_most_apart P_clocks_for_all sp_is_heard { nx := fun _ H' => Q .non H', rt := Q } (start N_may_go_on vs) H) :
    FnOk P w K mg base CX0 2 f fd ["points", "k", "i"] sp := by
  obtain ⟨_, _, G_is_heard, m_is_heard, k_is_heard, b_is_heard⟩ := h_is_heard.ex
  refine F.ok sc_may_go_on len (fun cdv A outer s H vs Q E hr h => ⟨t_may_go_on K C_Session a_GIVEN_COUNTS P_row_lengths P_most_apart P_clocks_for_all sp_is_heard, ?_, pure vs H Q E h⟩)
  exact pss_cons (ps_if (pt_cmpR (op_eqD (hu64 hr)) (pe_ix ix_list (pv 0) (pv 1) (fun _ _ => rfl)) (pe_ix ix_list (pv 0) (pv 2) (fun _ _ => rfl)) (nomark _)) (pss_one (ps_ret (pe_cmpR op_lt (pv 1) (pv 2) (nomark _)))) (pss_nil))
      (pss_one (ps_ret (pe_call G_is_heard (hr.mono (by decide)) (by rfl) m_is_heard k_is_heard b_is_heard .nil pass0 (pa_cons (pe_ix ix_list (pv 0) (pv 1) (fun _ _ => rfl)) (pa_cons (pe_ix ix_list (pv 0) (pv 2) (fun _ _ => rfl)) (pa_nil))))))
theorem sc_row_lengths : FnScope N_row_lengths ["points"] (defScope s_row_lengths) := ⟨rfl, rfl, rfl, by decide +kernel, rfl, by decide +kernel, by decide +kernel⟩
theorem ok_row_lengths {f : Addr} {fd : FuncData} {sp : Sp} (F : Fun K "row_lengths" "row_lengths" s_row_lengths f fd) (T : Txt K mg C_Session a_GIVEN_COUNTS P_row_lengths P_most_apart P_clocks_for_all) {c : Addr} (hTB : LamX.TabB base mg c P_row_lengths) (hcd : fd.code = .ref c) {sp_may_go_on : Sp} (h_may_go_on : Df P w K mg base "may_go_on" 2 ["points", "k", "i"] sp_may_go_on)
    (len : ∀ vs H Q E, sp vs H Q E → vs.length = 1) (pure : ∀ vs H Q E, sp vs H Q E → t_row_lengths K C_Session a_GIVEN_COUNTS P_row_lengths P_most_apart P_clocks_for_all sp_may_go_on { nx := fun _ H' => Q .non H', rt := Q } (start N_row_lengths vs) H) :
    FnOk P w K mg base CX0 4 f fd ["points"] sp := by
  obtain ⟨_, _, G_may_go_on, m_may_go_on, k_may_go_on, b_may_go_on⟩ := h_may_go_on.ex
  refine Lk.okC F hcd sc_row_lengths len (fun A outer s H vs Q E hr h => ⟨t_row_lengths K C_Session a_GIVEN_COUNTS P_row_lengths P_most_apart P_clocks_for_all sp_may_go_on, ?_, pure vs H Q E h⟩)
  exact pss_cons (ps_set (i := 1) sc_row_lengths.nd rfl (Or.inr rfl) (pe_op op_rep (pe_lst (pa_cons (pe_int) (pa_nil))) (pe_callB call_len_seq (by rfl) T.n_len PySem.boot_len (pa_cons (pv 0) (pa_nil)))))
      (pss_cons (ps_for PassesOwn.never rfl (pi_list (Lk.pe_sortLam (T := (tabsT P_row_lengths P_most_apart P_clocks_for_all)) (j := 3) (k := 0) (by rfl) T.n_sorted (pa_cons (pe_callTy Lk.cr_range1 (by rfl) T.n_range (by decide +kernel) (pa_cons (pe_callB call_len_seq (by rfl) T.n_len PySem.boot_len (pa_cons (pv 0) (pa_nil))) (pa_nil))) (pa_nil)) hTB rfl (List.mem_cons_self ..) (Lk.tab_uniq T.nd_P (List.mem_cons_self ..)) (hr.mono (by decide)) (Lk.lamP_by (around := defScope s_row_lengths) (by decide +kernel)) rfl sc_row_lengths.nd rfl (fun _ _ _ _ _ _ => rfl) (fun _ _ _ _ _ hr => pe_tup (pa_cons (pe_ix ix_tup (pe_ix ix_list (pv 0) (pv 3) (fun _ _ => rfl)) (pe_int) (fun _ _ => rfl)) (pa_cons (pv 3) (pa_nil)))))) (pg_name (i := 2) sc_row_lengths.nd rfl (Or.inr rfl)) (pss_one (ps_asg (pe_op op_add (pe_int) (pe_callBK (Lk.cr_maxD rfl (hu64 hr)) (by rfl) T.n_max (by decide +kernel) (pa_cons (pe_lc (own := [("k", 3)]) rfl sc_row_lengths.nd (pi_range1 (by rfl) T.n_range (pa_cons (pe_callB call_len_seq (by rfl) T.n_len PySem.boot_len (pa_cons (pv 0) (pa_nil))) (pa_nil))) (blkOk_by (N := N_row_lengths) (sc := defScope s_row_lengths) (by decide +kernel)) (fun _ _ _ _ _ => pg_name (i := 3) sc_row_lengths.nd rfl (Or.inl rfl)) (fun _ _ _ _ _ => pts_one (pt_val (pe_call G_may_go_on (hr.mono (by decide)) (by rfl) m_may_go_on k_may_go_on b_may_go_on .nil pass0 (pa_cons (pv 0) (pa_cons (pv 3) (pa_cons (pv 2) (pa_nil))))))) (fun _ _ _ _ _ => pe_ix ix_list (pv 1) (pv 3) (fun _ _ => rfl))) (pa_nil)) (pk_cons (pe_int) pk_nil))) (pg_sub (pv 1) (pv 2) set_list))))
      (pss_one (ps_ret (pv 1))))
theorem sc_longest_row : FnScope N_longest_row ["points"] (defScope s_longest_row) := ⟨rfl, rfl, rfl, by decide +kernel, rfl, by decide +kernel, by decide +kernel⟩
theorem ok_longest_row {f : Addr} {fd : FuncData} {sp : Sp} (F : Fun K "longest_row" "longest_row" s_longest_row f fd) (T : Txt K mg C_Session a_GIVEN_COUNTS P_row_lengths P_most_apart P_clocks_for_all) {sp_row_lengths : Sp} (h_row_lengths : Df P w K mg base "row_lengths" 4 ["points"] sp_row_lengths)
    (len : ∀ vs H Q E, sp vs H Q E → vs.length = 1) (pure : ∀ vs H Q E, sp vs H Q E → t_longest_row K C_Session a_GIVEN_COUNTS P_row_lengths P_most_apart P_clocks_for_all sp_row_lengths { nx := fun _ H' => Q .non H', rt := Q } (start N_longest_row vs) H) :
    FnOk P w K mg base CX0 5 f fd ["points"] sp := by
  obtain ⟨_, _, G_row_lengths, m_row_lengths, k_row_lengths, b_row_lengths⟩ := h_row_lengths.ex
  refine F.ok sc_longest_row len (fun cdv A outer s H vs Q E hr h => ⟨t_longest_row K C_Session a_GIVEN_COUNTS P_row_lengths P_most_apart P_clocks_for_all sp_row_lengths, ?_, pure vs H Q E h⟩)
  exact pss_one (ps_ret (pe_callBK (Lk.cr_maxD rfl (hu64 hr)) (by rfl) T.n_max (by decide +kernel) (pa_cons (pe_call G_row_lengths (hr.mono (by decide)) (by rfl) m_row_lengths k_row_lengths b_row_lengths .nil pass0 (pa_cons (pv 0) (pa_nil))) (pa_nil)) (pk_cons (pe_int) pk_nil)))
theorem sc_clock_of : FnScope N_clock_of ["points"] (defScope s_clock_of) := ⟨rfl, rfl, rfl, by decide +kernel, rfl, by decide +kernel, by decide +kernel⟩
theorem ok_clock_of {f : Addr} {fd : FuncData} {sp : Sp} (F : Fun K "clock_of" "clock_of" s_clock_of f fd) (T : Txt K mg C_Session a_GIVEN_COUNTS P_row_lengths P_most_apart P_clocks_for_all) {sp_row_lengths : Sp} (h_row_lengths : Df P w K mg base "row_lengths" 4 ["points"] sp_row_lengths) {sp_may_go_on : Sp} (h_may_go_on : Df P w K mg base "may_go_on" 2 ["points", "k", "i"] sp_may_go_on)
    (len : ∀ vs H Q E, sp vs H Q E → vs.length = 1) (pure : ∀ vs H Q E, sp vs H Q E → t_clock_of K C_Session a_GIVEN_COUNTS P_row_lengths P_most_apart P_clocks_for_all sp_row_lengths sp_may_go_on { nx := fun _ H' => Q .non H', rt := Q } (start N_clock_of vs) H) :
    FnOk P w K mg base CX0 5 f fd ["points"] sp := by
  obtain ⟨_, _, G_row_lengths, m_row_lengths, k_row_lengths, b_row_lengths⟩ := h_row_lengths.ex
  obtain ⟨_, _, G_may_go_on, m_may_go_on, k_may_go_on, b_may_go_on⟩ := h_may_go_on.ex
  refine F.ok sc_clock_of len (fun cdv A outer s H vs Q E hr h => ⟨t_clock_of K C_Session a_GIVEN_COUNTS P_row_lengths P_most_apart P_clocks_for_all sp_row_lengths sp_may_go_on, ?_, pure vs H Q E h⟩)
  exact pss_cons (ps_set (i := 1) sc_clock_of.nd rfl (Or.inr rfl) (pe_call G_row_lengths (hr.mono (by decide)) (by rfl) m_row_lengths k_row_lengths b_row_lengths .nil pass0 (pa_cons (pv 0) (pa_nil))))
      (pss_cons (ps_setLc (i := 2) (own := [("i", 6)]) rfl sc_clock_of.nd rfl rfl (sw_true rfl rfl rfl (by decide +kernel)) (pi_range1 (by rfl) T.n_range (pa_cons (pe_callB call_len_seq (by rfl) T.n_len PySem.boot_len (pa_cons (pv 0) (pa_nil))) (pa_nil))) (blkOk_by (N := N_clock_of) (sc := defScope s_clock_of) (by decide +kernel)) (fun _ _ _ _ _ => pg_name (i := 6) sc_clock_of.nd rfl (Or.inl rfl)) (fun _ _ _ _ _ => pts_one (pt_cmpR op_eq (pe_ix ix_list (pv 1) (pv 6) (fun _ _ => rfl)) (pe_callB (cr_max rfl) (by rfl) T.n_max (by decide +kernel) (pa_cons (pv 1) (pa_nil))) (nomark _))) (fun _ _ _ _ _ => pv 6))
      (pss_cons (ps_set (i := 3) sc_clock_of.nd rfl (Or.inl rfl) (pe_lst (pa_nil)))
      (pss_cons (ps_while PassesOwn.never (pt_truth (pv 2) (fun _ => rfl)) (pss_cons (ps_set (i := 4) sc_clock_of.nd rfl (Or.inr rfl) (pe_callB (cr_min rfl) (by rfl) T.n_min (by decide +kernel) (pa_cons (pv 2) (pa_nil))))
      (pss_cons (ps_set (i := 3) sc_clock_of.nd rfl (Or.inl rfl) (pe_op op_cat (pe_lst (pa_cons (pv 4) (pa_nil))) (pv 3)))
      (pss_cons (ps_setLc (i := 5) (own := [("k", 7)]) rfl sc_clock_of.nd rfl rfl (sw_true rfl rfl rfl (by decide +kernel)) (pi_range1 (by rfl) T.n_range (pa_cons (pe_callB call_len_seq (by rfl) T.n_len PySem.boot_len (pa_cons (pv 0) (pa_nil))) (pa_nil))) (blkOk_by (N := N_clock_of) (sc := defScope s_clock_of) (by decide +kernel)) (fun _ _ _ _ _ => pg_name (i := 7) sc_clock_of.nd rfl (Or.inl rfl)) (fun _ _ _ _ _ => pts_one (pt_val (pe_call G_may_go_on (hr.mono (by decide)) (by rfl) m_may_go_on k_may_go_on b_may_go_on .nil pass0 (pa_cons (pv 0) (pa_cons (pv 7) (pa_cons (pv 4) (pa_nil))))))) (fun _ _ _ _ _ => pv 7))
      (pss_one (ps_setLc (i := 2) (own := [("k", 7)]) rfl sc_clock_of.nd rfl rfl (sw_true rfl rfl rfl (by decide +kernel)) (pi_list (pv 5)) (blkOk_by (N := N_clock_of) (sc := defScope s_clock_of) (by decide +kernel)) (fun _ _ _ _ _ => pg_name (i := 7) sc_clock_of.nd rfl (Or.inl rfl)) (fun _ _ _ _ _ => pts_one (pt_cmpR op_eq (pe_ix ix_list (pv 1) (pv 7) (fun _ _ => rfl)) (pe_op op_sub (pe_ix ix_list (pv 1) (pv 4) (fun _ _ => rfl)) (pe_int)) (nomark _))) (fun _ _ _ _ _ => pv 7)))))))
      (pss_one (ps_ret (pv 3))))))
theorem sc_most_apart : FnScope N_most_apart ["points"] (defScope s_most_apart) := ⟨rfl, rfl, rfl, by decide +kernel, rfl, by decide +kernel, by decide +kernel⟩
theorem ok_most_apart {f : Addr} {fd : FuncData} {sp : Sp} (F : Fun K "most_apart" "most_apart" s_most_apart f fd) (T : Txt K mg C_Session a_GIVEN_COUNTS P_row_lengths P_most_apart P_clocks_for_all) {c : Addr} (hTB : LamX.TabB base mg c P_most_apart) (hcd : fd.code = .ref c) {sp_is_apart_below : Sp} (h_is_apart_below : Df P w K mg base "is_apart_below" 1 ["one", "two"] sp_is_apart_below)
    (len : ∀ vs H Q E, sp vs H Q E → vs.length = 1) (pure : ∀ vs H Q E, sp vs H Q E → t_most_apart K C_Session a_GIVEN_COUNTS P_row_lengths P_most_apart P_clocks_for_all sp_is_apart_below { nx := fun _ H' => Q .non H', rt := Q } (start N_most_apart vs) H) :
    FnOk P w K mg base CX0 4 f fd ["points"] sp := by
  obtain ⟨_, _, G_is_apart_below, m_is_apart_below, k_is_apart_below, b_is_apart_below⟩ := h_is_apart_below.ex
  refine Lk.okC F hcd sc_most_apart len (fun A outer s H vs Q E hr h => ⟨t_most_apart K C_Session a_GIVEN_COUNTS P_row_lengths P_most_apart P_clocks_for_all sp_is_apart_below, ?_, pure vs H Q E h⟩)
  exact pss_cons (ps_set (i := 1) sc_most_apart.nd rfl (Or.inr rfl) (Lk.pe_sortLam (T := (tabsT P_row_lengths P_most_apart P_clocks_for_all)) (j := 4) (k := 0) (by rfl) T.n_sorted (pa_cons (pv 0) (pa_nil)) hTB rfl (List.mem_cons_of_mem _ (List.mem_cons_self ..)) (Lk.tab_uniq T.nd_P (List.mem_cons_of_mem _ (List.mem_cons_self ..))) (hr.mono (by decide)) (Lk.lamP_by (around := defScope s_most_apart) (by decide +kernel)) rfl sc_most_apart.nd rfl (fun _ _ _ _ _ _ => rfl) (fun _ _ _ _ _ hr => pe_ix ix_tup (pv 4) (pe_int) (fun _ _ => rfl))))
      (pss_cons (ps_set (i := 2) sc_most_apart.nd rfl (Or.inr rfl) (pe_lst (pa_nil)))
      (pss_cons (ps_for PassesOwn.never rfl (pi_enum (by rfl) T.n_enumerate (pa_cons (pv 1) (pa_nil))) (pg_tup rfl (pgs_cons (pg_name (i := 3) sc_most_apart.nd rfl (Or.inl rfl)) (pgs_cons (pg_name (i := 4) sc_most_apart.nd rfl (Or.inr rfl)) (pgs_nil)))) (pss_one (ps_expr (pe_bm PySem.F.plainAttrs_list PySem.F.slot_list_append PySem.F.type_list_append mt_append (pv 2) (pa_cons (pe_op op_add (pe_int) (pe_callBK (Lk.cr_maxD rfl (hu64 hr)) (by rfl) T.n_max (by decide +kernel) (pa_cons (pe_lc (own := [("k", 5)]) rfl sc_most_apart.nd (pi_range1 (by rfl) T.n_range (pa_cons (pv 3) (pa_nil))) (blkOk_by (N := N_most_apart) (sc := defScope s_most_apart) (by decide +kernel)) (fun _ _ _ _ _ => pg_name (i := 5) sc_most_apart.nd rfl (Or.inl rfl)) (fun _ _ _ _ _ => pts_one (pt_val (pe_call G_is_apart_below (hr.mono (by decide)) (by rfl) m_is_apart_below k_is_apart_below b_is_apart_below .nil pass0 (pa_cons (pe_ix ix_list (pv 1) (pv 5) (fun _ _ => rfl)) (pa_cons (pv 4) (pa_nil)))))) (fun _ _ _ _ _ => pe_ix ix_list (pv 2) (pv 5) (fun _ _ => rfl))) (pa_nil)) (pk_cons (pe_int) pk_nil))) (pa_nil))))))
      (pss_one (ps_ret (pe_callBK (Lk.cr_maxD rfl (hu64 hr)) (by rfl) T.n_max (by decide +kernel) (pa_cons (pv 2) (pa_nil)) (pk_cons (pe_int) pk_nil))))))
theorem sc_clock_to_take : FnScope N_clock_to_take ["lasts", "own"] (defScope s_clock_to_take) := ⟨rfl, rfl, rfl, by decide +kernel, rfl, by decide +kernel, by decide +kernel⟩
theorem ok_clock_to_take {f : Addr} {fd : FuncData} {sp : Sp} (F : Fun K "clock_to_take" "clock_to_take" s_clock_to_take f fd) (T : Txt K mg C_Session a_GIVEN_COUNTS P_row_lengths P_most_apart P_clocks_for_all)
    (len : ∀ vs H Q E, sp vs H Q E → vs.length = 2) (pure : ∀ vs H Q E, sp vs H Q E → t_clock_to_take K C_Session a_GIVEN_COUNTS P_row_lengths P_most_apart P_clocks_for_all { nx := fun _ H' => Q .non H', rt := Q } (start N_clock_to_take vs) H) :
    FnOk P w K mg base CX0 1 f fd ["lasts", "own"] sp := by
  refine F.ok sc_clock_to_take len (fun cdv A outer s H vs Q E hr h => ⟨t_clock_to_take K C_Session a_GIVEN_COUNTS P_row_lengths P_most_apart P_clocks_for_all, ?_, pure vs H Q E h⟩)
  exact pss_cons (ps_set (i := 2) sc_clock_to_take.nd rfl (Or.inl rfl) (pe_non))
      (pss_cons (ps_for PassesOwn.never rfl (pi_enum (by rfl) T.n_enumerate (pa_cons (pv 0) (pa_nil))) (pg_tup rfl (pgs_cons (pg_name (i := 3) sc_clock_to_take.nd rfl (Or.inl rfl)) (pgs_cons (pg_name (i := 4) sc_clock_to_take.nd rfl (Or.inl rfl)) (pgs_nil)))) (pss_one (ps_if ((pw_and (pt_cmpR op_le (pv 4) (pv 1) (nomark _)) (pw_and1 ((pw_or (pt_cmpR op_isN (pv 2) (pe_non) (nomark _)) (pw_or1 (pt_cmpR op_gt (pv 4) (pe_ix ix_list (pv 0) (pv 2) (fun _ _ => rfl)) (nomark _)))).pt))).pt) (pss_one (ps_set (i := 2) sc_clock_to_take.nd rfl (Or.inl rfl) (pv 3))) (pss_nil))))
      (pss_one (ps_ret (pv 2))))
theorem sc_clocks_for_all : FnScope N_clocks_for_all ["points"] (defScope s_clocks_for_all) := ⟨rfl, rfl, rfl, by decide +kernel, rfl, by decide +kernel, by decide +kernel⟩
theorem ok_clocks_for_all {f : Addr} {fd : FuncData} {sp : Sp} (F : Fun K "clocks_for_all" "clocks_for_all" s_clocks_for_all f fd) (T : Txt K mg C_Session a_GIVEN_COUNTS P_row_lengths P_most_apart P_clocks_for_all) {c : Addr} (hTB : LamX.TabB base mg c P_clocks_for_all) (hcd : fd.code = .ref c) {sp_time_and_place : Sp} (h_time_and_place : Df P w K mg base "time_and_place" 1 ["point"] sp_time_and_place) {sp_time_less_place : Sp} (h_time_less_place : Df P w K mg base "time_less_place" 1 ["point"] sp_time_less_place) {sp_clock_to_take : Sp} (h_clock_to_take : Df P w K mg base "clock_to_take" 1 ["lasts", "own"] sp_clock_to_take)
    (len : ∀ vs H Q E, sp vs H Q E → vs.length = 1) (pure : ∀ vs H Q E, sp vs H Q E → t_clocks_for_all K C_Session a_GIVEN_COUNTS P_row_lengths P_most_apart P_clocks_for_all sp_time_and_place sp_time_less_place sp_clock_to_take { nx := fun _ H' => Q .non H', rt := Q } (start N_clocks_for_all vs) H) :
    FnOk P w K mg base CX0 5 f fd ["points"] sp := by
  obtain ⟨_, _, G_time_and_place, m_time_and_place, k_time_and_place, b_time_and_place⟩ := h_time_and_place.ex
  obtain ⟨_, _, G_time_less_place, m_time_less_place, k_time_less_place, b_time_less_place⟩ := h_time_less_place.ex
  obtain ⟨_, _, G_clock_to_take, m_clock_to_take, k_clock_to_take, b_clock_to_take⟩ := h_clock_to_take.ex
  refine Lk.okC F hcd sc_clocks_for_all len (fun A outer s H vs Q E hr h => ⟨t_clocks_for_all K C_Session a_GIVEN_COUNTS P_row_lengths P_most_apart P_clocks_for_all sp_time_and_place sp_time_less_place sp_clock_to_take, ?_, pure vs H Q E h⟩)
  exact pss_cons (ps_set (i := 1) sc_clocks_for_all.nd rfl (Or.inl rfl) (Lk.pe_sortLam (T := (tabsT P_row_lengths P_most_apart P_clocks_for_all)) (j := 6) (k := 1) (by rfl) T.n_sorted (pa_cons (pe_callTy Lk.cr_range1 (by rfl) T.n_range (by decide +kernel) (pa_cons (pe_callB call_len_seq (by rfl) T.n_len PySem.boot_len (pa_cons (pv 0) (pa_nil))) (pa_nil))) (pa_nil)) hTB rfl (List.mem_cons_of_mem _ (List.mem_cons_of_mem _ (List.mem_cons_self ..))) (Lk.tab_uniq T.nd_P (List.mem_cons_of_mem _ (List.mem_cons_of_mem _ (List.mem_cons_self ..)))) (hr.mono (by decide)) (Lk.lamP_by (around := defScope s_clocks_for_all) (by decide +kernel)) rfl sc_clocks_for_all.nd rfl (fun _ _ _ _ _ _ => rfl) (fun _ _ _ _ _ hr => pe_tup (pa_cons (pe_call G_time_less_place (hr.mono (by decide)) (by rfl) m_time_less_place k_time_less_place b_time_less_place .nil pass0 (pa_cons (pe_ix ix_list (pv 0) (pv 6) (fun _ _ => rfl)) (pa_nil))) (pa_cons (pe_call G_time_and_place (hr.mono (by decide)) (by rfl) m_time_and_place k_time_and_place b_time_and_place .nil pass0 (pa_cons (pe_ix ix_list (pv 0) (pv 6) (fun _ _ => rfl)) (pa_nil))) (pa_cons (pv 6) (pa_nil)))))))
      (pss_cons (ps_set (i := 2) sc_clocks_for_all.nd rfl (Or.inl rfl) (pe_lst (pa_nil)))
      (pss_cons (ps_for PassesOwn.never rfl (pi_list (pv 1)) (pg_name (i := 3) sc_clocks_for_all.nd rfl (Or.inl rfl)) (pss_cons (ps_setLc (i := 4) (own := [("clock", 7)]) rfl sc_clocks_for_all.nd rfl rfl (sw_true rfl rfl rfl (by decide +kernel)) (pi_list (pv 2)) (blkOk_by (N := N_clocks_for_all) (sc := defScope s_clocks_for_all) (by decide +kernel)) (fun _ _ _ _ _ => pg_name (i := 7) sc_clocks_for_all.nd rfl (Or.inl rfl)) (fun _ _ _ _ _ => pts_nil) (fun _ _ _ _ _ => pe_call G_time_and_place (hr.mono (by decide)) (by rfl) m_time_and_place k_time_and_place b_time_and_place .nil pass0 (pa_cons (pe_ix ix_list (pv 0) (pe_ix ix_list (pv 7) (pe_un un_neg (pe_int)) (fun _ _ => rfl)) (fun _ _ => rfl)) (pa_nil))))
      (pss_cons (ps_set (i := 5) sc_clocks_for_all.nd rfl (Or.inl rfl) (pe_call G_clock_to_take (hr.mono (by decide)) (by rfl) m_clock_to_take k_clock_to_take b_clock_to_take .nil pass0 (pa_cons (pv 4) (pa_cons (pe_call G_time_and_place (hr.mono (by decide)) (by rfl) m_time_and_place k_time_and_place b_time_and_place .nil pass0 (pa_cons (pe_ix ix_list (pv 0) (pv 3) (fun _ _ => rfl)) (pa_nil))) (pa_nil)))))
      (pss_one (ps_if (pt_cmpR op_isN (pv 5) (pe_non) (nomark _)) (pss_one (ps_expr (pe_bm PySem.F.plainAttrs_list PySem.F.slot_list_append PySem.F.type_list_append mt_append (pv 2) (pa_cons (pe_lst (pa_cons (pv 3) (pa_nil))) (pa_nil))))) (pss_one (ps_expr (pe_bm PySem.F.plainAttrs_list PySem.F.slot_list_append PySem.F.type_list_append mt_append (pe_ix ix_list (pv 2) (pv 5) (fun _ _ => rfl)) (pa_cons (pv 3) (pa_nil))))))))))
      (pss_one (ps_ret (pv 2)))))
theorem sc_in_range : FnScope N_in_range ["number"] (defScope s_in_range) := ⟨rfl, rfl, rfl, by decide +kernel, rfl, by decide +kernel, by decide +kernel⟩
theorem ok_in_range {f : Addr} {fd : FuncData} {sp : Sp} (F : Fun K "in_range" "in_range" s_in_range f fd) (T : Txt K mg C_Session a_GIVEN_COUNTS P_row_lengths P_most_apart P_clocks_for_all)
    (len : ∀ vs H Q E, sp vs H Q E → vs.length = 1) (pure : ∀ vs H Q E, sp vs H Q E → t_in_range K C_Session a_GIVEN_COUNTS P_row_lengths P_most_apart P_clocks_for_all { nx := fun _ H' => Q .non H', rt := Q } (start N_in_range vs) H) :
    FnOk P w K mg base CX0 1 f fd ["number"] sp := by
  refine F.ok sc_in_range len (fun cdv A outer s H vs Q E hr h => ⟨t_in_range K C_Session a_GIVEN_COUNTS P_row_lengths P_most_apart P_clocks_for_all, ?_, pure vs H Q E h⟩)
  exact pss_one (ps_ret (pe_cmpR op_le (pe_callB call_abs (by rfl) T.n_abs (by decide +kernel) (pa_cons (pv 0) (pa_nil))) (pe_glob (by rfl) (T.g_FARTHEST).choose_spec ⟨_, rfl⟩) (nomark _)))
theorem sc_counted : FnScope N_counted ["numbers"] (defScope s_counted) := ⟨rfl, rfl, rfl, by decide +kernel, rfl, by decide +kernel, by decide +kernel⟩
theorem ok_counted {f : Addr} {fd : FuncData} {sp : Sp} (F : Fun K "counted" "counted" s_counted f fd) (T : Txt K mg C_Session a_GIVEN_COUNTS P_row_lengths P_most_apart P_clocks_for_all)
    (len : ∀ vs H Q E, sp vs H Q E → vs.length = 1) (pure : ∀ vs H Q E, sp vs H Q E → t_counted K C_Session a_GIVEN_COUNTS P_row_lengths P_most_apart P_clocks_for_all { nx := fun _ H' => Q .non H', rt := Q } (start N_counted vs) H) :
    FnOk P w K mg base CX0 1 f fd ["numbers"] sp := by
  refine F.ok sc_counted len (fun cdv A outer s H vs Q E hr h => ⟨t_counted K C_Session a_GIVEN_COUNTS P_row_lengths P_most_apart P_clocks_for_all, ?_, pure vs H Q E h⟩)
  exact pss_one (ps_ret (pe_op op_cat (pe_lst (pa_cons (pe_callB call_len_seq (by rfl) T.n_len PySem.boot_len (pa_cons (pv 0) (pa_nil))) (pa_nil))) (pv 0)))
theorem sc_Session_init : FnScope N_Session_init ["self"] (defScope s_Session_init) := ⟨rfl, rfl, rfl, by decide +kernel, rfl, by decide +kernel, by decide +kernel⟩
theorem ok_Session_init {f : Addr} {fd : FuncData} {sp : Sp} (F : Fun K "__init__" "Session.__init__" s_Session_init f fd) (T : Txt K mg C_Session a_GIVEN_COUNTS P_row_lengths P_most_apart P_clocks_for_all)
    (len : ∀ vs H Q E, sp vs H Q E → vs.length = 1) (pure : ∀ vs H Q E, sp vs H Q E → t_Session_init K C_Session a_GIVEN_COUNTS P_row_lengths P_most_apart P_clocks_for_all { nx := fun _ H' => Q .non H', rt := Q } (start N_Session_init vs) H) :
    FnOk P w K mg base CX0 1 f fd ["self"] sp := by
  refine F.ok sc_Session_init len (fun cdv A outer s H vs Q E hr h => ⟨t_Session_init K C_Session a_GIVEN_COUNTS P_row_lengths P_most_apart P_clocks_for_all, ?_, pure vs H Q E h⟩)
  exact pss_cons (ps_fld (pv 0) (pe_bl) (by rfl))
      (pss_cons (ps_fld (pv 0) (pe_lst (pa_nil)) (by rfl))
      (pss_one (ps_fld (pv 0) (pe_lst (pa_nil)) (by rfl))))
theorem sc_Session_has : FnScope N_Session_has ["self", "i"] (defScope s_Session_has) := ⟨rfl, rfl, rfl, by decide +kernel, rfl, by decide +kernel, by decide +kernel⟩
theorem ok_Session_has {f : Addr} {fd : FuncData} {sp : Sp} (F : Fun K "has" "Session.has" s_Session_has f fd) (T : Txt K mg C_Session a_GIVEN_COUNTS P_row_lengths P_most_apart P_clocks_for_all)
    (len : ∀ vs H Q E, sp vs H Q E → vs.length = 2) (pure : ∀ vs H Q E, sp vs H Q E → t_Session_has K C_Session a_GIVEN_COUNTS P_row_lengths P_most_apart P_clocks_for_all { nx := fun _ H' => Q .non H', rt := Q } (start N_Session_has vs) H) :
    FnOk P w K mg base CX0 1 f fd ["self", "i"] sp := by
  refine F.ok sc_Session_has len (fun cdv A outer s H vs Q E hr h => ⟨t_Session_has K C_Session a_GIVEN_COUNTS P_row_lengths P_most_apart P_clocks_for_all, ?_, pure vs H Q E h⟩)
  exact pss_one (ps_ret (pe_chain op_le op_lt (pe_int) (pv 1) (pe_callB call_len_seq (by rfl) T.n_len PySem.boot_len (pa_cons (pe_fld (pv 0) (by rfl)) (pa_nil)))))
theorem sc_Session_others : FnScope N_Session_others ["self", "i", "j"] (defScope s_Session_others) := ⟨rfl, rfl, rfl, by decide +kernel, rfl, by decide +kernel, by decide +kernel⟩
theorem ok_Session_others {f : Addr} {fd : FuncData} {sp : Sp} (F : Fun K "others" "Session.others" s_Session_others f fd) (T : Txt K mg C_Session a_GIVEN_COUNTS P_row_lengths P_most_apart P_clocks_for_all)
    (len : ∀ vs H Q E, sp vs H Q E → vs.length = 3) (pure : ∀ vs H Q E, sp vs H Q E → t_Session_others K C_Session a_GIVEN_COUNTS P_row_lengths P_most_apart P_clocks_for_all { nx := fun _ H' => Q .non H', rt := Q } (start N_Session_others vs) H) :
    FnOk P w K mg base CX0 1 f fd ["self", "i", "j"] sp := by
  refine F.ok sc_Session_others len (fun cdv A outer s H vs Q E hr h => ⟨t_Session_others K C_Session a_GIVEN_COUNTS P_row_lengths P_most_apart P_clocks_for_all, ?_, pure vs H Q E h⟩)
  exact pss_one (ps_ret (pe_lc (own := [("k", 3)]) rfl sc_Session_others.nd (pi_range1 (by rfl) T.n_range (pa_cons (pe_callB call_len_seq (by rfl) T.n_len PySem.boot_len (pa_cons (pe_fld (pv 0) (by rfl)) (pa_nil))) (pa_nil))) (blkOk_by (N := N_Session_others) (sc := defScope s_Session_others) (by decide +kernel)) (fun _ _ _ _ _ => pg_name (i := 3) sc_Session_others.nd rfl (Or.inl rfl)) (fun _ _ _ _ _ => pts_one ((pw_and (pt_cmpR op_ne (pv 3) (pv 1) (nomark _)) (pw_and1 (pt_cmpR op_ne (pv 3) (pv 2) (nomark _)))).pt)) (fun _ _ _ _ _ => pv 3)))
theorem sc_Session_become : FnScope N_Session_become ["self", "points"] (defScope s_Session_become) := ⟨rfl, rfl, rfl, by decide +kernel, rfl, by decide +kernel, by decide +kernel⟩
theorem ok_Session_become {f : Addr} {fd : FuncData} {sp : Sp} (F : Fun K "become" "Session.become" s_Session_become f fd) (T : Txt K mg C_Session a_GIVEN_COUNTS P_row_lengths P_most_apart P_clocks_for_all)
    (len : ∀ vs H Q E, sp vs H Q E → vs.length = 2) (pure : ∀ vs H Q E, sp vs H Q E → t_Session_become K C_Session a_GIVEN_COUNTS P_row_lengths P_most_apart P_clocks_for_all { nx := fun _ H' => Q .non H', rt := Q } (start N_Session_become vs) H) :
    FnOk P w K mg base CX0 1 f fd ["self", "points"] sp := by
  refine F.ok sc_Session_become len (fun cdv A outer s H vs Q E hr h => ⟨t_Session_become K C_Session a_GIVEN_COUNTS P_row_lengths P_most_apart P_clocks_for_all, ?_, pure vs H Q E h⟩)
  exact pss_cons (ps_fld (pv 0) (pe_slice sl_list (pe_op op_cat (pe_fld (pv 0) (by rfl)) (pe_lst (pa_cons (pe_fld (pv 0) (by rfl)) (pa_nil)))) (po_some (pe_un un_neg (pe_glob (by rfl) (T.g_MOST_BACK).choose_spec ⟨_, rfl⟩))) (po_none)) (by rfl))
      (pss_one (ps_fld (pv 0) (pv 1) (by rfl)))
theorem sc_Session_begin : FnScope N_Session_begin ["self"] (defScope s_Session_begin) := ⟨rfl, rfl, rfl, by decide +kernel, rfl, by decide +kernel, by decide +kernel⟩
theorem ok_Session_begin {f : Addr} {fd : FuncData} {sp : Sp} (F : Fun K "begin" "Session.begin" s_Session_begin f fd) (T : Txt K mg C_Session a_GIVEN_COUNTS P_row_lengths P_most_apart P_clocks_for_all)
    (len : ∀ vs H Q E, sp vs H Q E → vs.length = 1) (pure : ∀ vs H Q E, sp vs H Q E → t_Session_begin K C_Session a_GIVEN_COUNTS P_row_lengths P_most_apart P_clocks_for_all { nx := fun _ H' => Q .non H', rt := Q } (start N_Session_begin vs) H) :
    FnOk P w K mg base CX0 1 f fd ["self"] sp := by
  refine F.ok sc_Session_begin len (fun cdv A outer s H vs Q E hr h => ⟨t_Session_begin K C_Session a_GIVEN_COUNTS P_row_lengths P_most_apart P_clocks_for_all, ?_, pure vs H Q E h⟩)
  exact pss_cons (ps_fld (pv 0) (pe_bl) (by rfl))
      (pss_cons (ps_fld (pv 0) (pe_lst (pa_nil)) (by rfl))
      (pss_cons (ps_fld (pv 0) (pe_lst (pa_nil)) (by rfl))
      (pss_one (ps_ret (pe_lst (pa_cons (pe_int) (pa_nil)))))))
theorem sc_Session_back : FnScope N_Session_back ["self"] (defScope s_Session_back) := ⟨rfl, rfl, rfl, by decide +kernel, rfl, by decide +kernel, by decide +kernel⟩
theorem ok_Session_back {f : Addr} {fd : FuncData} {sp : Sp} (F : Fun K "back" "Session.back" s_Session_back f fd) (T : Txt K mg C_Session a_GIVEN_COUNTS P_row_lengths P_most_apart P_clocks_for_all)
    (len : ∀ vs H Q E, sp vs H Q E → vs.length = 1) (pure : ∀ vs H Q E, sp vs H Q E → t_Session_back K C_Session a_GIVEN_COUNTS P_row_lengths P_most_apart P_clocks_for_all { nx := fun _ H' => Q .non H', rt := Q } (start N_Session_back vs) H) :
    FnOk P w K mg base CX0 1 f fd ["self"] sp := by
  refine F.ok sc_Session_back len (fun cdv A outer s H vs Q E hr h => ⟨t_Session_back K C_Session a_GIVEN_COUNTS P_row_lengths P_most_apart P_clocks_for_all, ?_, pure vs H Q E h⟩)
  exact pss_cons (ps_if (pt_not (pt_truth (pe_fld (pv 0) (by rfl)) (fun _ => rfl))) (pss_one (ps_ret (pe_lst (pa_cons (pe_glob (by rfl) (T.g_NO_CHANGE).choose_spec ⟨_, rfl⟩) (pa_nil))))) (pss_nil))
      (pss_cons (ps_fld (pv 0) (pe_ix ix_list (pe_fld (pv 0) (by rfl)) (pe_un un_neg (pe_int)) (fun _ _ => rfl)) (by rfl))
      (pss_cons (ps_fld (pv 0) (pe_slice sl_list (pe_fld (pv 0) (by rfl)) (po_none) (po_some (pe_un un_neg (pe_int)))) (by rfl))
      (pss_one (ps_ret (pe_lst (pa_cons (pe_callB call_len_seq (by rfl) T.n_len PySem.boot_len (pa_cons (pe_fld (pv 0) (by rfl)) (pa_nil))) (pa_nil)))))))
theorem sc_Session_state : FnScope N_Session_state ["self"] (defScope s_Session_state) := ⟨rfl, rfl, rfl, by decide +kernel, rfl, by decide +kernel, by decide +kernel⟩
theorem ok_Session_state {f : Addr} {fd : FuncData} {sp : Sp} (F : Fun K "state" "Session.state" s_Session_state f fd) (T : Txt K mg C_Session a_GIVEN_COUNTS P_row_lengths P_most_apart P_clocks_for_all)
    (len : ∀ vs H Q E, sp vs H Q E → vs.length = 1) (pure : ∀ vs H Q E, sp vs H Q E → t_Session_state K C_Session a_GIVEN_COUNTS P_row_lengths P_most_apart P_clocks_for_all { nx := fun _ H' => Q .non H', rt := Q } (start N_Session_state vs) H) :
    FnOk P w K mg base CX0 1 f fd ["self"] sp := by
  refine F.ok sc_Session_state len (fun cdv A outer s H vs Q E hr h => ⟨t_Session_state K C_Session a_GIVEN_COUNTS P_row_lengths P_most_apart P_clocks_for_all, ?_, pure vs H Q E h⟩)
  exact pss_one (ps_ret (pe_lst (pa_cons (pe_callB call_len_seq (by rfl) T.n_len PySem.boot_len (pa_cons (pe_fld (pv 0) (by rfl)) (pa_nil))) (pa_cons (pe_callB call_len_seq (by rfl) T.n_len PySem.boot_len (pa_cons (pe_fld (pv 0) (by rfl)) (pa_nil))) (pa_nil)))))
theorem sc_Session_put : FnScope N_Session_put ["self", "t", "x"] (defScope s_Session_put) := ⟨rfl, rfl, rfl, by decide +kernel, rfl, by decide +kernel, by decide +kernel⟩
theorem ok_Session_put {f : Addr} {fd : FuncData} {sp : Sp} (F : Fun K "put" "Session.put" s_Session_put f fd) (T : Txt K mg C_Session a_GIVEN_COUNTS P_row_lengths P_most_apart P_clocks_for_all) {sp_in_range : Sp} (h_in_range : Df P w K mg base "in_range" 1 ["number"] sp_in_range) {sp_Session_become : Sp} (h_Session_become : Mt P w K mg base C_Session "become" 1 ["self", "points"] sp_Session_become)
    (len : ∀ vs H Q E, sp vs H Q E → vs.length = 3) (pure : ∀ vs H Q E, sp vs H Q E → t_Session_put K C_Session a_GIVEN_COUNTS P_row_lengths P_most_apart P_clocks_for_all sp_in_range sp_Session_become { nx := fun _ H' => Q .non H', rt := Q } (start N_Session_put vs) H) :
    FnOk P w K mg base CX0 2 f fd ["self", "t", "x"] sp := by
  obtain ⟨_, _, G_in_range, m_in_range, k_in_range, b_in_range⟩ := h_in_range.ex
  obtain ⟨_, _, G_Session_become, m_Session_become, b_Session_become⟩ := h_Session_become.ex
  refine F.ok sc_Session_put len (fun cdv A outer s H vs Q E hr h => ⟨t_Session_put K C_Session a_GIVEN_COUNTS P_row_lengths P_most_apart P_clocks_for_all sp_in_range sp_Session_become, ?_, pure vs H Q E h⟩)
  exact pss_cons (ps_if (pt_not ((pw_and (pt_val (pe_call G_in_range (hr.mono (by decide)) (by rfl) m_in_range k_in_range b_in_range .nil pass0 (pa_cons (pv 1) (pa_nil)))) (pw_and1 (pt_val (pe_call G_in_range (hr.mono (by decide)) (by rfl) m_in_range k_in_range b_in_range .nil pass0 (pa_cons (pv 2) (pa_nil)))))).pt)) (pss_one (ps_ret (pe_lst (pa_cons (pe_glob (by rfl) (T.g_OUT_OF_RANGE).choose_spec ⟨_, rfl⟩) (pa_nil))))) (pss_nil))
      (pss_cons (ps_if (pt_cmpR op_ge (pe_callB call_len_seq (by rfl) T.n_len PySem.boot_len (pa_cons (pe_fld (pv 0) (by rfl)) (pa_nil))) (pe_glob (by rfl) (T.g_MOST_EVENTS).choose_spec ⟨_, rfl⟩) (nomark _)) (pss_one (ps_ret (pe_lst (pa_cons (pe_glob (by rfl) (T.g_TOO_MANY).choose_spec ⟨_, rfl⟩) (pa_nil))))) (pss_nil))
      (pss_cons (ps_expr (pe_meth (pv 0) T.cl_Session m_Session_become G_Session_become (hr.mono (by decide)) b_Session_become .nil pass0 (pa_cons (pe_op op_cat (pe_fld (pv 0) (by rfl)) (pe_lst (pa_cons (pe_tup (pa_cons (pv 1) (pa_cons (pv 2) (pa_nil)))) (pa_nil)))) (pa_nil))))
      (pss_one (ps_ret (pe_lst (pa_cons (pe_op op_sub (pe_callB call_len_seq (by rfl) T.n_len PySem.boot_len (pa_cons (pe_fld (pv 0) (by rfl)) (pa_nil))) (pe_int)) (pa_nil)))))))
theorem sc_Session_drop : FnScope N_Session_drop ["self", "i"] (defScope s_Session_drop) := ⟨rfl, rfl, rfl, by decide +kernel, rfl, by decide +kernel, by decide +kernel⟩
theorem ok_Session_drop {f : Addr} {fd : FuncData} {sp : Sp} (F : Fun K "drop" "Session.drop" s_Session_drop f fd) (T : Txt K mg C_Session a_GIVEN_COUNTS P_row_lengths P_most_apart P_clocks_for_all) {sp_Session_has : Sp} (h_Session_has : Mt P w K mg base C_Session "has" 1 ["self", "i"] sp_Session_has) {sp_Session_become : Sp} (h_Session_become : Mt P w K mg base C_Session "become" 1 ["self", "points"] sp_Session_become)
    (len : ∀ vs H Q E, sp vs H Q E → vs.length = 2) (pure : ∀ vs H Q E, sp vs H Q E → t_Session_drop K C_Session a_GIVEN_COUNTS P_row_lengths P_most_apart P_clocks_for_all sp_Session_has sp_Session_become { nx := fun _ H' => Q .non H', rt := Q } (start N_Session_drop vs) H) :
    FnOk P w K mg base CX0 2 f fd ["self", "i"] sp := by
  obtain ⟨_, _, G_Session_has, m_Session_has, b_Session_has⟩ := h_Session_has.ex
  obtain ⟨_, _, G_Session_become, m_Session_become, b_Session_become⟩ := h_Session_become.ex
  refine F.ok sc_Session_drop len (fun cdv A outer s H vs Q E hr h => ⟨t_Session_drop K C_Session a_GIVEN_COUNTS P_row_lengths P_most_apart P_clocks_for_all sp_Session_has sp_Session_become, ?_, pure vs H Q E h⟩)
  exact pss_cons (ps_if (pt_not (pt_val (pe_meth (pv 0) T.cl_Session m_Session_has G_Session_has (hr.mono (by decide)) b_Session_has .nil pass0 (pa_cons (pv 1) (pa_nil))))) (pss_one (ps_ret (pe_lst (pa_cons (pe_glob (by rfl) (T.g_NO_EVENT).choose_spec ⟨_, rfl⟩) (pa_nil))))) (pss_nil))
      (pss_cons (ps_expr (pe_meth (pv 0) T.cl_Session m_Session_become G_Session_become (hr.mono (by decide)) b_Session_become .nil pass0 (pa_cons (pe_op op_cat (pe_slice sl_list (pe_fld (pv 0) (by rfl)) (po_none) (po_some (pv 1))) (pe_slice sl_list (pe_fld (pv 0) (by rfl)) (po_some (pe_op op_add (pv 1) (pe_int))) (po_none))) (pa_nil))))
      (pss_one (ps_ret (pe_lst (pa_cons (pe_callB call_len_seq (by rfl) T.n_len PySem.boot_len (pa_cons (pe_fld (pv 0) (by rfl)) (pa_nil))) (pa_nil))))))
theorem sc_Session_move : FnScope N_Session_move ["self", "i", "t", "x"] (defScope s_Session_move) := ⟨rfl, rfl, rfl, by decide +kernel, rfl, by decide +kernel, by decide +kernel⟩
theorem ok_Session_move {f : Addr} {fd : FuncData} {sp : Sp} (F : Fun K "move" "Session.move" s_Session_move f fd) (T : Txt K mg C_Session a_GIVEN_COUNTS P_row_lengths P_most_apart P_clocks_for_all) {sp_in_range : Sp} (h_in_range : Df P w K mg base "in_range" 1 ["number"] sp_in_range) {sp_Session_has : Sp} (h_Session_has : Mt P w K mg base C_Session "has" 1 ["self", "i"] sp_Session_has) {sp_Session_become : Sp} (h_Session_become : Mt P w K mg base C_Session "become" 1 ["self", "points"] sp_Session_become)
    (len : ∀ vs H Q E, sp vs H Q E → vs.length = 4) (pure : ∀ vs H Q E, sp vs H Q E → t_Session_move K C_Session a_GIVEN_COUNTS P_row_lengths P_most_apart P_clocks_for_all sp_in_range sp_Session_has sp_Session_become { nx := fun _ H' => Q .non H', rt := Q } (start N_Session_move vs) H) :
    FnOk P w K mg base CX0 2 f fd ["self", "i", "t", "x"] sp := by
  obtain ⟨_, _, G_in_range, m_in_range, k_in_range, b_in_range⟩ := h_in_range.ex
  obtain ⟨_, _, G_Session_has, m_Session_has, b_Session_has⟩ := h_Session_has.ex
  obtain ⟨_, _, G_Session_become, m_Session_become, b_Session_become⟩ := h_Session_become.ex
  refine F.ok sc_Session_move len (fun cdv A outer s H vs Q E hr h => ⟨t_Session_move K C_Session a_GIVEN_COUNTS P_row_lengths P_most_apart P_clocks_for_all sp_in_range sp_Session_has sp_Session_become, ?_, pure vs H Q E h⟩)
  exact pss_cons (ps_if (pt_not (pt_val (pe_meth (pv 0) T.cl_Session m_Session_has G_Session_has (hr.mono (by decide)) b_Session_has .nil pass0 (pa_cons (pv 1) (pa_nil))))) (pss_one (ps_ret (pe_lst (pa_cons (pe_glob (by rfl) (T.g_NO_EVENT).choose_spec ⟨_, rfl⟩) (pa_nil))))) (pss_nil))
      (pss_cons (ps_if (pt_not ((pw_and (pt_val (pe_call G_in_range (hr.mono (by decide)) (by rfl) m_in_range k_in_range b_in_range .nil pass0 (pa_cons (pv 2) (pa_nil)))) (pw_and1 (pt_val (pe_call G_in_range (hr.mono (by decide)) (by rfl) m_in_range k_in_range b_in_range .nil pass0 (pa_cons (pv 3) (pa_nil)))))).pt)) (pss_one (ps_ret (pe_lst (pa_cons (pe_glob (by rfl) (T.g_OUT_OF_RANGE).choose_spec ⟨_, rfl⟩) (pa_nil))))) (pss_nil))
      (pss_cons (ps_expr (pe_meth (pv 0) T.cl_Session m_Session_become G_Session_become (hr.mono (by decide)) b_Session_become .nil pass0 (pa_cons (pe_op op_cat (pe_op op_cat (pe_slice sl_list (pe_fld (pv 0) (by rfl)) (po_none) (po_some (pv 1))) (pe_lst (pa_cons (pe_tup (pa_cons (pv 2) (pa_cons (pv 3) (pa_nil)))) (pa_nil)))) (pe_slice sl_list (pe_fld (pv 0) (by rfl)) (po_some (pe_op op_add (pv 1) (pe_int))) (po_none))) (pa_nil))))
      (pss_one (ps_ret (pe_lst (pa_cons (pe_int) (pa_nil)))))))
theorem sc_Session_turn : FnScope N_Session_turn ["self"] (defScope s_Session_turn) := ⟨rfl, rfl, rfl, by decide +kernel, rfl, by decide +kernel, by decide +kernel⟩
theorem ok_Session_turn {f : Addr} {fd : FuncData} {sp : Sp} (F : Fun K "turn" "Session.turn" s_Session_turn f fd) (T : Txt K mg C_Session a_GIVEN_COUNTS P_row_lengths P_most_apart P_clocks_for_all) {sp_Session_become : Sp} (h_Session_become : Mt P w K mg base C_Session "become" 1 ["self", "points"] sp_Session_become)
    (len : ∀ vs H Q E, sp vs H Q E → vs.length = 1) (pure : ∀ vs H Q E, sp vs H Q E → t_Session_turn K C_Session a_GIVEN_COUNTS P_row_lengths P_most_apart P_clocks_for_all sp_Session_become { nx := fun _ H' => Q .non H', rt := Q } (start N_Session_turn vs) H) :
    FnOk P w K mg base CX0 2 f fd ["self"] sp := by
  obtain ⟨_, _, G_Session_become, m_Session_become, b_Session_become⟩ := h_Session_become.ex
  refine F.ok sc_Session_turn len (fun cdv A outer s H vs Q E hr h => ⟨t_Session_turn K C_Session a_GIVEN_COUNTS P_row_lengths P_most_apart P_clocks_for_all sp_Session_become, ?_, pure vs H Q E h⟩)
  exact pss_cons (ps_expr (pe_meth (pv 0) T.cl_Session m_Session_become G_Session_become (hr.mono (by decide)) b_Session_become .nil pass0 (pa_cons (pe_lc (own := [("point", 1)]) rfl sc_Session_turn.nd (pi_list (pe_fld (pv 0) (by rfl))) (blkOk_by (N := N_Session_turn) (sc := defScope s_Session_turn) (by decide +kernel)) (fun _ _ _ _ _ => pg_name (i := 1) sc_Session_turn.nd rfl (Or.inl rfl)) (fun _ _ _ _ _ => pts_nil) (fun _ _ _ _ _ => pe_tup (pa_cons (pe_un un_neg (pe_ix ix_tup (pv 1) (pe_int) (fun _ _ => rfl))) (pa_cons (pe_un un_neg (pe_ix ix_tup (pv 1) (pe_int) (fun _ _ => rfl))) (pa_nil))))) (pa_nil))))
      (pss_one (ps_ret (pe_lst (pa_cons (pe_callB call_len_seq (by rfl) T.n_len PySem.boot_len (pa_cons (pe_fld (pv 0) (by rfl)) (pa_nil))) (pa_nil)))))
theorem sc_Session_events : FnScope N_Session_events ["self"] (defScope s_Session_events) := ⟨rfl, rfl, rfl, by decide +kernel, rfl, by decide +kernel, by decide +kernel⟩
theorem ok_Session_events {f : Addr} {fd : FuncData} {sp : Sp} (F : Fun K "events" "Session.events" s_Session_events f fd) (T : Txt K mg C_Session a_GIVEN_COUNTS P_row_lengths P_most_apart P_clocks_for_all)
    (len : ∀ vs H Q E, sp vs H Q E → vs.length = 1) (pure : ∀ vs H Q E, sp vs H Q E → t_Session_events K C_Session a_GIVEN_COUNTS P_row_lengths P_most_apart P_clocks_for_all { nx := fun _ H' => Q .non H', rt := Q } (start N_Session_events vs) H) :
    FnOk P w K mg base CX0 1 f fd ["self"] sp := by
  refine F.ok sc_Session_events len (fun cdv A outer s H vs Q E hr h => ⟨t_Session_events K C_Session a_GIVEN_COUNTS P_row_lengths P_most_apart P_clocks_for_all, ?_, pure vs H Q E h⟩)
  exact pss_cons (ps_set (i := 1) sc_Session_events.nd rfl (Or.inl rfl) (pe_lst (pa_cons (pe_callB call_len_seq (by rfl) T.n_len PySem.boot_len (pa_cons (pe_fld (pv 0) (by rfl)) (pa_nil))) (pa_nil))))
      (pss_cons (ps_for PassesOwn.never rfl (pi_list (pe_fld (pv 0) (by rfl))) (pg_name (i := 2) sc_Session_events.nd rfl (Or.inl rfl)) (pss_cons (ps_expr (pe_bm PySem.F.plainAttrs_list PySem.F.slot_list_append PySem.F.type_list_append mt_append (pv 1) (pa_cons (pe_ix ix_tup (pv 2) (pe_int) (fun _ _ => rfl)) (pa_nil))))
      (pss_one (ps_expr (pe_bm PySem.F.plainAttrs_list PySem.F.slot_list_append PySem.F.type_list_append mt_append (pv 1) (pa_cons (pe_ix ix_tup (pv 2) (pe_int) (fun _ _ => rfl)) (pa_nil)))))))
      (pss_one (ps_ret (pv 1))))
theorem sc_Session_heard : FnScope N_Session_heard ["self", "i", "j"] (defScope s_Session_heard) := ⟨rfl, rfl, rfl, by decide +kernel, rfl, by decide +kernel, by decide +kernel⟩
theorem ok_Session_heard {f : Addr} {fd : FuncData} {sp : Sp} (F : Fun K "heard" "Session.heard" s_Session_heard f fd) (T : Txt K mg C_Session a_GIVEN_COUNTS P_row_lengths P_most_apart P_clocks_for_all) {sp_is_heard : Sp} (h_is_heard : Df P w K mg base "is_heard" 1 ["one", "two"] sp_is_heard) {sp_Session_has : Sp} (h_Session_has : Mt P w K mg base C_Session "has" 1 ["self", "i"] sp_Session_has)
    (len : ∀ vs H Q E, sp vs H Q E → vs.length = 3) (pure : ∀ vs H Q E, sp vs H Q E → t_Session_heard K C_Session a_GIVEN_COUNTS P_row_lengths P_most_apart P_clocks_for_all sp_is_heard sp_Session_has { nx := fun _ H' => Q .non H', rt := Q } (start N_Session_heard vs) H) :
    FnOk P w K mg base CX0 2 f fd ["self", "i", "j"] sp := by
  obtain ⟨_, _, G_is_heard, m_is_heard, k_is_heard, b_is_heard⟩ := h_is_heard.ex
  obtain ⟨_, _, G_Session_has, m_Session_has, b_Session_has⟩ := h_Session_has.ex
  refine F.ok sc_Session_heard len (fun cdv A outer s H vs Q E hr h => ⟨t_Session_heard K C_Session a_GIVEN_COUNTS P_row_lengths P_most_apart P_clocks_for_all sp_is_heard sp_Session_has, ?_, pure vs H Q E h⟩)
  exact pss_cons (ps_if (pt_not ((pw_and (pt_val (pe_meth (pv 0) T.cl_Session m_Session_has G_Session_has (hr.mono (by decide)) b_Session_has .nil pass0 (pa_cons (pv 1) (pa_nil)))) (pw_and1 (pt_val (pe_meth (pv 0) T.cl_Session m_Session_has G_Session_has (hr.mono (by decide)) b_Session_has .nil pass0 (pa_cons (pv 2) (pa_nil)))))).pt)) (pss_one (ps_ret (pe_lst (pa_cons (pe_glob (by rfl) (T.g_NO_EVENT).choose_spec ⟨_, rfl⟩) (pa_nil))))) (pss_nil))
      (pss_one (ps_ret (pe_lst (pa_cons (pe_ifExp (pt_val (pe_call G_is_heard (hr.mono (by decide)) (by rfl) m_is_heard k_is_heard b_is_heard .nil pass0 (pa_cons (pe_ix ix_list (pe_fld (pv 0) (by rfl)) (pv 1) (fun _ _ => rfl)) (pa_cons (pe_ix ix_list (pe_fld (pv 0) (by rfl)) (pv 2) (fun _ _ => rfl)) (pa_nil))))) (pe_int) (pe_int)) (pa_nil)))))
theorem sc_Session_kind : FnScope N_Session_kind ["self", "i", "j"] (defScope s_Session_kind) := ⟨rfl, rfl, rfl, by decide +kernel, rfl, by decide +kernel, by decide +kernel⟩
theorem ok_Session_kind {f : Addr} {fd : FuncData} {sp : Sp} (F : Fun K "kind" "Session.kind" s_Session_kind f fd) (T : Txt K mg C_Session a_GIVEN_COUNTS P_row_lengths P_most_apart P_clocks_for_all) {sp_kind_of : Sp} (h_kind_of : Df P w K mg base "kind_of" 2 ["one", "two"] sp_kind_of) {sp_Session_has : Sp} (h_Session_has : Mt P w K mg base C_Session "has" 1 ["self", "i"] sp_Session_has)
    (len : ∀ vs H Q E, sp vs H Q E → vs.length = 3) (pure : ∀ vs H Q E, sp vs H Q E → t_Session_kind K C_Session a_GIVEN_COUNTS P_row_lengths P_most_apart P_clocks_for_all sp_kind_of sp_Session_has { nx := fun _ H' => Q .non H', rt := Q } (start N_Session_kind vs) H) :
    FnOk P w K mg base CX0 3 f fd ["self", "i", "j"] sp := by
  obtain ⟨_, _, G_kind_of, m_kind_of, k_kind_of, b_kind_of⟩ := h_kind_of.ex
  obtain ⟨_, _, G_Session_has, m_Session_has, b_Session_has⟩ := h_Session_has.ex
  refine F.ok sc_Session_kind len (fun cdv A outer s H vs Q E hr h => ⟨t_Session_kind K C_Session a_GIVEN_COUNTS P_row_lengths P_most_apart P_clocks_for_all sp_kind_of sp_Session_has, ?_, pure vs H Q E h⟩)
  exact pss_cons (ps_if (pt_not ((pw_and (pt_val (pe_meth (pv 0) T.cl_Session m_Session_has G_Session_has (hr.mono (by decide)) b_Session_has .nil pass0 (pa_cons (pv 1) (pa_nil)))) (pw_and1 (pt_val (pe_meth (pv 0) T.cl_Session m_Session_has G_Session_has (hr.mono (by decide)) b_Session_has .nil pass0 (pa_cons (pv 2) (pa_nil)))))).pt)) (pss_one (ps_ret (pe_lst (pa_cons (pe_glob (by rfl) (T.g_NO_EVENT).choose_spec ⟨_, rfl⟩) (pa_nil))))) (pss_nil))
      (pss_one (ps_ret (pe_lst (pa_cons (pe_call G_kind_of (hr.mono (by decide)) (by rfl) m_kind_of k_kind_of b_kind_of .nil pass0 (pa_cons (pe_ix ix_list (pe_fld (pv 0) (by rfl)) (pv 1) (fun _ _ => rfl)) (pa_cons (pe_ix ix_list (pe_fld (pv 0) (by rfl)) (pv 2) (fun _ _ => rfl)) (pa_nil)))) (pa_nil)))))
theorem sc_Session_square : FnScope N_Session_square ["self", "i", "j"] (defScope s_Session_square) := ⟨rfl, rfl, rfl, by decide +kernel, rfl, by decide +kernel, by decide +kernel⟩
theorem ok_Session_square {f : Addr} {fd : FuncData} {sp : Sp} (F : Fun K "square" "Session.square" s_Session_square f fd) (T : Txt K mg C_Session a_GIVEN_COUNTS P_row_lengths P_most_apart P_clocks_for_all) {sp_square_of : Sp} (h_square_of : Df P w K mg base "square_of" 1 ["one", "two"] sp_square_of) {sp_Session_has : Sp} (h_Session_has : Mt P w K mg base C_Session "has" 1 ["self", "i"] sp_Session_has)
    (len : ∀ vs H Q E, sp vs H Q E → vs.length = 3) (pure : ∀ vs H Q E, sp vs H Q E → t_Session_square K C_Session a_GIVEN_COUNTS P_row_lengths P_most_apart P_clocks_for_all sp_square_of sp_Session_has { nx := fun _ H' => Q .non H', rt := Q } (start N_Session_square vs) H) :
    FnOk P w K mg base CX0 2 f fd ["self", "i", "j"] sp := by
  obtain ⟨_, _, G_square_of, m_square_of, k_square_of, b_square_of⟩ := h_square_of.ex
  obtain ⟨_, _, G_Session_has, m_Session_has, b_Session_has⟩ := h_Session_has.ex
  refine F.ok sc_Session_square len (fun cdv A outer s H vs Q E hr h => ⟨t_Session_square K C_Session a_GIVEN_COUNTS P_row_lengths P_most_apart P_clocks_for_all sp_square_of sp_Session_has, ?_, pure vs H Q E h⟩)
  exact pss_cons (ps_if (pt_not ((pw_and (pt_val (pe_meth (pv 0) T.cl_Session m_Session_has G_Session_has (hr.mono (by decide)) b_Session_has .nil pass0 (pa_cons (pv 1) (pa_nil)))) (pw_and1 (pt_val (pe_meth (pv 0) T.cl_Session m_Session_has G_Session_has (hr.mono (by decide)) b_Session_has .nil pass0 (pa_cons (pv 2) (pa_nil)))))).pt)) (pss_one (ps_ret (pe_lst (pa_cons (pe_glob (by rfl) (T.g_NO_EVENT).choose_spec ⟨_, rfl⟩) (pa_nil))))) (pss_nil))
      (pss_one (ps_ret (pe_lst (pa_cons (pe_int) (pa_cons (pe_call G_square_of (hr.mono (by decide)) (by rfl) m_square_of k_square_of b_square_of .nil pass0 (pa_cons (pe_ix ix_list (pe_fld (pv 0) (by rfl)) (pv 1) (fun _ _ => rfl)) (pa_cons (pe_ix ix_list (pe_fld (pv 0) (by rfl)) (pv 2) (fun _ _ => rfl)) (pa_nil)))) (pa_nil))))))
theorem sc_Session_past : FnScope N_Session_past ["self", "i"] (defScope s_Session_past) := ⟨rfl, rfl, rfl, by decide +kernel, rfl, by decide +kernel, by decide +kernel⟩
theorem ok_Session_past {f : Addr} {fd : FuncData} {sp : Sp} (F : Fun K "past" "Session.past" s_Session_past f fd) (T : Txt K mg C_Session a_GIVEN_COUNTS P_row_lengths P_most_apart P_clocks_for_all) {sp_counted : Sp} (h_counted : Df P w K mg base "counted" 1 ["numbers"] sp_counted) {sp_is_heard : Sp} (h_is_heard : Df P w K mg base "is_heard" 1 ["one", "two"] sp_is_heard) {sp_Session_has : Sp} (h_Session_has : Mt P w K mg base C_Session "has" 1 ["self", "i"] sp_Session_has) {sp_Session_others : Sp} (h_Session_others : Mt P w K mg base C_Session "others" 1 ["self", "i", "j"] sp_Session_others)
    (len : ∀ vs H Q E, sp vs H Q E → vs.length = 2) (pure : ∀ vs H Q E, sp vs H Q E → t_Session_past K C_Session a_GIVEN_COUNTS P_row_lengths P_most_apart P_clocks_for_all sp_counted sp_is_heard sp_Session_has sp_Session_others { nx := fun _ H' => Q .non H', rt := Q } (start N_Session_past vs) H) :
    FnOk P w K mg base CX0 2 f fd ["self", "i"] sp := by
  obtain ⟨_, _, G_counted, m_counted, k_counted, b_counted⟩ := h_counted.ex
  obtain ⟨_, _, G_is_heard, m_is_heard, k_is_heard, b_is_heard⟩ := h_is_heard.ex
  obtain ⟨_, _, G_Session_has, m_Session_has, b_Session_has⟩ := h_Session_has.ex
  obtain ⟨_, _, G_Session_others, m_Session_others, b_Session_others⟩ := h_Session_others.ex
  refine F.ok sc_Session_past len (fun cdv A outer s H vs Q E hr h => ⟨t_Session_past K C_Session a_GIVEN_COUNTS P_row_lengths P_most_apart P_clocks_for_all sp_counted sp_is_heard sp_Session_has sp_Session_others, ?_, pure vs H Q E h⟩)
  exact pss_cons (ps_if (pt_not (pt_val (pe_meth (pv 0) T.cl_Session m_Session_has G_Session_has (hr.mono (by decide)) b_Session_has .nil pass0 (pa_cons (pv 1) (pa_nil))))) (pss_one (ps_ret (pe_lst (pa_cons (pe_glob (by rfl) (T.g_NO_EVENT).choose_spec ⟨_, rfl⟩) (pa_nil))))) (pss_nil))
      (pss_cons (ps_set (i := 2) sc_Session_past.nd rfl (Or.inr rfl) (pe_ix ix_list (pe_fld (pv 0) (by rfl)) (pv 1) (fun _ _ => rfl)))
      (pss_one (ps_ret (pe_call G_counted (hr.mono (by decide)) (by rfl) m_counted k_counted b_counted .nil pass0 (pa_cons (pe_lc (own := [("k", 3)]) rfl sc_Session_past.nd (pi_list (pe_meth (pv 0) T.cl_Session m_Session_others G_Session_others (hr.mono (by decide)) b_Session_others .nil pass0 (pa_cons (pv 1) (pa_cons (pv 1) (pa_nil))))) (blkOk_by (N := N_Session_past) (sc := defScope s_Session_past) (by decide +kernel)) (fun _ _ _ _ _ => pg_name (i := 3) sc_Session_past.nd rfl (Or.inl rfl)) (fun _ _ _ _ _ => pts_one (pt_val (pe_call G_is_heard (hr.mono (by decide)) (by rfl) m_is_heard k_is_heard b_is_heard .nil pass0 (pa_cons (pe_ix ix_list (pe_fld (pv 0) (by rfl)) (pv 3) (fun _ _ => rfl)) (pa_cons (pv 2) (pa_nil)))))) (fun _ _ _ _ _ => pv 3)) (pa_nil))))))
theorem sc_Session_future : FnScope N_Session_future ["self", "i"] (defScope s_Session_future) := ⟨rfl, rfl, rfl, by decide +kernel, rfl, by decide +kernel, by decide +kernel⟩
theorem ok_Session_future {f : Addr} {fd : FuncData} {sp : Sp} (F : Fun K "future" "Session.future" s_Session_future f fd) (T : Txt K mg C_Session a_GIVEN_COUNTS P_row_lengths P_most_apart P_clocks_for_all) {sp_counted : Sp} (h_counted : Df P w K mg base "counted" 1 ["numbers"] sp_counted) {sp_is_heard : Sp} (h_is_heard : Df P w K mg base "is_heard" 1 ["one", "two"] sp_is_heard) {sp_Session_has : Sp} (h_Session_has : Mt P w K mg base C_Session "has" 1 ["self", "i"] sp_Session_has) {sp_Session_others : Sp} (h_Session_others : Mt P w K mg base C_Session "others" 1 ["self", "i", "j"] sp_Session_others)
    (len : ∀ vs H Q E, sp vs H Q E → vs.length = 2) (pure : ∀ vs H Q E, sp vs H Q E → t_Session_future K C_Session a_GIVEN_COUNTS P_row_lengths P_most_apart P_clocks_for_all sp_counted sp_is_heard sp_Session_has sp_Session_others { nx := fun _ H' => Q .non H', rt := Q } (start N_Session_future vs) H) :
    FnOk P w K mg base CX0 2 f fd ["self", "i"] sp := by
  obtain ⟨_, _, G_counted, m_counted, k_counted, b_counted⟩ := h_counted.ex
  obtain ⟨_, _, G_is_heard, m_is_heard, k_is_heard, b_is_heard⟩ := h_is_heard.ex
  obtain ⟨_, _, G_Session_has, m_Session_has, b_Session_has⟩ := h_Session_has.ex
  obtain ⟨_, _, G_Session_others, m_Session_others, b_Session_others⟩ := h_Session_others.ex
  refine F.ok sc_Session_future len (fun cdv A outer s H vs Q E hr h => ⟨t_Session_future K C_Session a_GIVEN_COUNTS P_row_lengths P_most_apart P_clocks_for_all sp_counted sp_is_heard sp_Session_has sp_Session_others, ?_, pure vs H Q E h⟩)
  exact pss_cons (ps_if (pt_not (pt_val (pe_meth (pv 0) T.cl_Session m_Session_has G_Session_has (hr.mono (by decide)) b_Session_has .nil pass0 (pa_cons (pv 1) (pa_nil))))) (pss_one (ps_ret (pe_lst (pa_cons (pe_glob (by rfl) (T.g_NO_EVENT).choose_spec ⟨_, rfl⟩) (pa_nil))))) (pss_nil))
      (pss_cons (ps_set (i := 2) sc_Session_future.nd rfl (Or.inr rfl) (pe_ix ix_list (pe_fld (pv 0) (by rfl)) (pv 1) (fun _ _ => rfl)))
      (pss_one (ps_ret (pe_call G_counted (hr.mono (by decide)) (by rfl) m_counted k_counted b_counted .nil pass0 (pa_cons (pe_lc (own := [("k", 3)]) rfl sc_Session_future.nd (pi_list (pe_meth (pv 0) T.cl_Session m_Session_others G_Session_others (hr.mono (by decide)) b_Session_others .nil pass0 (pa_cons (pv 1) (pa_cons (pv 1) (pa_nil))))) (blkOk_by (N := N_Session_future) (sc := defScope s_Session_future) (by decide +kernel)) (fun _ _ _ _ _ => pg_name (i := 3) sc_Session_future.nd rfl (Or.inl rfl)) (fun _ _ _ _ _ => pts_one (pt_val (pe_call G_is_heard (hr.mono (by decide)) (by rfl) m_is_heard k_is_heard b_is_heard .nil pass0 (pa_cons (pv 2) (pa_cons (pe_ix ix_list (pe_fld (pv 0) (by rfl)) (pv 3) (fun _ _ => rfl)) (pa_nil)))))) (fun _ _ _ _ _ => pv 3)) (pa_nil))))))
theorem sc_Session_between : FnScope N_Session_between ["self", "i", "j"] (defScope s_Session_between) := ⟨rfl, rfl, rfl, by decide +kernel, rfl, by decide +kernel, by decide +kernel⟩
theorem ok_Session_between {f : Addr} {fd : FuncData} {sp : Sp} (F : Fun K "between" "Session.between" s_Session_between f fd) (T : Txt K mg C_Session a_GIVEN_COUNTS P_row_lengths P_most_apart P_clocks_for_all) {sp_is_heard : Sp} (h_is_heard : Df P w K mg base "is_heard" 1 ["one", "two"] sp_is_heard) {sp_counted : Sp} (h_counted : Df P w K mg base "counted" 1 ["numbers"] sp_counted) {sp_Session_has : Sp} (h_Session_has : Mt P w K mg base C_Session "has" 1 ["self", "i"] sp_Session_has) {sp_Session_others : Sp} (h_Session_others : Mt P w K mg base C_Session "others" 1 ["self", "i", "j"] sp_Session_others)
    (len : ∀ vs H Q E, sp vs H Q E → vs.length = 3) (pure : ∀ vs H Q E, sp vs H Q E → t_Session_between K C_Session a_GIVEN_COUNTS P_row_lengths P_most_apart P_clocks_for_all sp_is_heard sp_counted sp_Session_has sp_Session_others { nx := fun _ H' => Q .non H', rt := Q } (start N_Session_between vs) H) :
    FnOk P w K mg base CX0 2 f fd ["self", "i", "j"] sp := by
  obtain ⟨_, _, G_is_heard, m_is_heard, k_is_heard, b_is_heard⟩ := h_is_heard.ex
  obtain ⟨_, _, G_counted, m_counted, k_counted, b_counted⟩ := h_counted.ex
  obtain ⟨_, _, G_Session_has, m_Session_has, b_Session_has⟩ := h_Session_has.ex
  obtain ⟨_, _, G_Session_others, m_Session_others, b_Session_others⟩ := h_Session_others.ex
  refine F.ok sc_Session_between len (fun cdv A outer s H vs Q E hr h => ⟨t_Session_between K C_Session a_GIVEN_COUNTS P_row_lengths P_most_apart P_clocks_for_all sp_is_heard sp_counted sp_Session_has sp_Session_others, ?_, pure vs H Q E h⟩)
  exact pss_cons (ps_if (pt_not ((pw_and (pt_val (pe_meth (pv 0) T.cl_Session m_Session_has G_Session_has (hr.mono (by decide)) b_Session_has .nil pass0 (pa_cons (pv 1) (pa_nil)))) (pw_and1 (pt_val (pe_meth (pv 0) T.cl_Session m_Session_has G_Session_has (hr.mono (by decide)) b_Session_has .nil pass0 (pa_cons (pv 2) (pa_nil)))))).pt)) (pss_one (ps_ret (pe_lst (pa_cons (pe_glob (by rfl) (T.g_NO_EVENT).choose_spec ⟨_, rfl⟩) (pa_nil))))) (pss_nil))
      (pss_cons (ps_set (i := 3) sc_Session_between.nd rfl (Or.inl rfl) (pe_ix ix_list (pe_fld (pv 0) (by rfl)) (pv 1) (fun _ _ => rfl)))
      (pss_cons (ps_set (i := 4) sc_Session_between.nd rfl (Or.inl rfl) (pe_ix ix_list (pe_fld (pv 0) (by rfl)) (pv 2) (fun _ _ => rfl)))
      (pss_cons (ps_set (i := 5) sc_Session_between.nd rfl (Or.inl rfl) (pe_lst (pa_nil)))
      (pss_cons (ps_for PassesOwn.never rfl (pi_list (pe_meth (pv 0) T.cl_Session m_Session_others G_Session_others (hr.mono (by decide)) b_Session_others .nil pass0 (pa_cons (pv 1) (pa_cons (pv 2) (pa_nil))))) (pg_name (i := 6) sc_Session_between.nd rfl (Or.inl rfl)) (pss_one (ps_if ((pw_and (pt_val (pe_call G_is_heard (hr.mono (by decide)) (by rfl) m_is_heard k_is_heard b_is_heard .nil pass0 (pa_cons (pv 3) (pa_cons (pe_ix ix_list (pe_fld (pv 0) (by rfl)) (pv 6) (fun _ _ => rfl)) (pa_nil))))) (pw_and1 (pt_val (pe_call G_is_heard (hr.mono (by decide)) (by rfl) m_is_heard k_is_heard b_is_heard .nil pass0 (pa_cons (pe_ix ix_list (pe_fld (pv 0) (by rfl)) (pv 6) (fun _ _ => rfl)) (pa_cons (pv 4) (pa_nil))))))).pt) (pss_one (ps_expr (pe_bm PySem.F.plainAttrs_list PySem.F.slot_list_append PySem.F.type_list_append mt_append (pv 5) (pa_cons (pv 6) (pa_nil))))) (pss_nil))))
      (pss_one (ps_ret (pe_call G_counted (hr.mono (by decide)) (by rfl) m_counted k_counted b_counted .nil pass0 (pa_cons (pv 5) (pa_nil)))))))))
theorem sc_Session_aside : FnScope N_Session_aside ["self", "i"] (defScope s_Session_aside) := ⟨rfl, rfl, rfl, by decide +kernel, rfl, by decide +kernel, by decide +kernel⟩
theorem ok_Session_aside {f : Addr} {fd : FuncData} {sp : Sp} (F : Fun K "aside" "Session.aside" s_Session_aside f fd) (T : Txt K mg C_Session a_GIVEN_COUNTS P_row_lengths P_most_apart P_clocks_for_all) {sp_counted : Sp} (h_counted : Df P w K mg base "counted" 1 ["numbers"] sp_counted) {sp_kind_of : Sp} (h_kind_of : Df P w K mg base "kind_of" 2 ["one", "two"] sp_kind_of) {sp_Session_has : Sp} (h_Session_has : Mt P w K mg base C_Session "has" 1 ["self", "i"] sp_Session_has) {sp_Session_others : Sp} (h_Session_others : Mt P w K mg base C_Session "others" 1 ["self", "i", "j"] sp_Session_others)
    (len : ∀ vs H Q E, sp vs H Q E → vs.length = 2) (pure : ∀ vs H Q E, sp vs H Q E → t_Session_aside K C_Session a_GIVEN_COUNTS P_row_lengths P_most_apart P_clocks_for_all sp_counted sp_kind_of sp_Session_has sp_Session_others { nx := fun _ H' => Q .non H', rt := Q } (start N_Session_aside vs) H) :
    FnOk P w K mg base CX0 3 f fd ["self", "i"] sp := by
  obtain ⟨_, _, G_counted, m_counted, k_counted, b_counted⟩ := h_counted.ex
  obtain ⟨_, _, G_kind_of, m_kind_of, k_kind_of, b_kind_of⟩ := h_kind_of.ex
  obtain ⟨_, _, G_Session_has, m_Session_has, b_Session_has⟩ := h_Session_has.ex
  obtain ⟨_, _, G_Session_others, m_Session_others, b_Session_others⟩ := h_Session_others.ex
  refine F.ok sc_Session_aside len (fun cdv A outer s H vs Q E hr h => ⟨t_Session_aside K C_Session a_GIVEN_COUNTS P_row_lengths P_most_apart P_clocks_for_all sp_counted sp_kind_of sp_Session_has sp_Session_others, ?_, pure vs H Q E h⟩)
  exact pss_cons (ps_if (pt_not (pt_val (pe_meth (pv 0) T.cl_Session m_Session_has G_Session_has (hr.mono (by decide)) b_Session_has .nil pass0 (pa_cons (pv 1) (pa_nil))))) (pss_one (ps_ret (pe_lst (pa_cons (pe_glob (by rfl) (T.g_NO_EVENT).choose_spec ⟨_, rfl⟩) (pa_nil))))) (pss_nil))
      (pss_cons (ps_set (i := 2) sc_Session_aside.nd rfl (Or.inr rfl) (pe_ix ix_list (pe_fld (pv 0) (by rfl)) (pv 1) (fun _ _ => rfl)))
      (pss_one (ps_ret (pe_call G_counted (hr.mono (by decide)) (by rfl) m_counted k_counted b_counted .nil pass0 (pa_cons (pe_lc (own := [("k", 3)]) rfl sc_Session_aside.nd (pi_list (pe_meth (pv 0) T.cl_Session m_Session_others G_Session_others (hr.mono (by decide)) b_Session_others .nil pass0 (pa_cons (pv 1) (pa_cons (pv 1) (pa_nil))))) (blkOk_by (N := N_Session_aside) (sc := defScope s_Session_aside) (by decide +kernel)) (fun _ _ _ _ _ => pg_name (i := 3) sc_Session_aside.nd rfl (Or.inl rfl)) (fun _ _ _ _ _ => pts_one (pt_cmpR op_eq (pe_call G_kind_of (hr.mono (by decide)) (by rfl) m_kind_of k_kind_of b_kind_of .nil pass0 (pa_cons (pv 2) (pa_cons (pe_ix ix_list (pe_fld (pv 0) (by rfl)) (pv 3) (fun _ _ => rfl)) (pa_nil)))) (pe_glob (by rfl) (T.g_NEITHER).choose_spec ⟨_, rfl⟩) (nomark _))) (fun _ _ _ _ _ => pv 3)) (pa_nil))))))
theorem sc_Session_first : FnScope N_Session_first ["self", "i", "j"] (defScope s_Session_first) := ⟨rfl, rfl, rfl, by decide +kernel, rfl, by decide +kernel, by decide +kernel⟩
theorem ok_Session_first {f : Addr} {fd : FuncData} {sp : Sp} (F : Fun K "first" "Session.first" s_Session_first f fd) (T : Txt K mg C_Session a_GIVEN_COUNTS P_row_lengths P_most_apart P_clocks_for_all) {sp_first_of : Sp} (h_first_of : Df P w K mg base "first_of" 3 ["one", "two"] sp_first_of) {sp_Session_has : Sp} (h_Session_has : Mt P w K mg base C_Session "has" 1 ["self", "i"] sp_Session_has)
    (len : ∀ vs H Q E, sp vs H Q E → vs.length = 3) (pure : ∀ vs H Q E, sp vs H Q E → t_Session_first K C_Session a_GIVEN_COUNTS P_row_lengths P_most_apart P_clocks_for_all sp_first_of sp_Session_has { nx := fun _ H' => Q .non H', rt := Q } (start N_Session_first vs) H) :
    FnOk P w K mg base CX0 4 f fd ["self", "i", "j"] sp := by
  obtain ⟨_, _, G_first_of, m_first_of, k_first_of, b_first_of⟩ := h_first_of.ex
  obtain ⟨_, _, G_Session_has, m_Session_has, b_Session_has⟩ := h_Session_has.ex
  refine F.ok sc_Session_first len (fun cdv A outer s H vs Q E hr h => ⟨t_Session_first K C_Session a_GIVEN_COUNTS P_row_lengths P_most_apart P_clocks_for_all sp_first_of sp_Session_has, ?_, pure vs H Q E h⟩)
  exact pss_cons (ps_if (pt_not ((pw_and (pt_val (pe_meth (pv 0) T.cl_Session m_Session_has G_Session_has (hr.mono (by decide)) b_Session_has .nil pass0 (pa_cons (pv 1) (pa_nil)))) (pw_and1 (pt_val (pe_meth (pv 0) T.cl_Session m_Session_has G_Session_has (hr.mono (by decide)) b_Session_has .nil pass0 (pa_cons (pv 2) (pa_nil)))))).pt)) (pss_one (ps_ret (pe_lst (pa_cons (pe_glob (by rfl) (T.g_NO_EVENT).choose_spec ⟨_, rfl⟩) (pa_nil))))) (pss_nil))
      (pss_one (ps_ret (pe_op op_cat (pe_lst (pa_cons (pe_int) (pa_nil))) (pe_call G_first_of (hr.mono (by decide)) (by rfl) m_first_of k_first_of b_first_of .nil pass0 (pa_cons (pe_ix ix_list (pe_fld (pv 0) (by rfl)) (pv 1) (fun _ _ => rfl)) (pa_cons (pe_ix ix_list (pe_fld (pv 0) (by rfl)) (pv 2) (fun _ _ => rfl)) (pa_nil)))))))
theorem sc_Session_last : FnScope N_Session_last ["self", "i", "j"] (defScope s_Session_last) := ⟨rfl, rfl, rfl, by decide +kernel, rfl, by decide +kernel, by decide +kernel⟩
theorem ok_Session_last {f : Addr} {fd : FuncData} {sp : Sp} (F : Fun K "last" "Session.last" s_Session_last f fd) (T : Txt K mg C_Session a_GIVEN_COUNTS P_row_lengths P_most_apart P_clocks_for_all) {sp_last_of : Sp} (h_last_of : Df P w K mg base "last_of" 3 ["one", "two"] sp_last_of) {sp_Session_has : Sp} (h_Session_has : Mt P w K mg base C_Session "has" 1 ["self", "i"] sp_Session_has)
    (len : ∀ vs H Q E, sp vs H Q E → vs.length = 3) (pure : ∀ vs H Q E, sp vs H Q E → t_Session_last K C_Session a_GIVEN_COUNTS P_row_lengths P_most_apart P_clocks_for_all sp_last_of sp_Session_has { nx := fun _ H' => Q .non H', rt := Q } (start N_Session_last vs) H) :
    FnOk P w K mg base CX0 4 f fd ["self", "i", "j"] sp := by
  obtain ⟨_, _, G_last_of, m_last_of, k_last_of, b_last_of⟩ := h_last_of.ex
  obtain ⟨_, _, G_Session_has, m_Session_has, b_Session_has⟩ := h_Session_has.ex
  refine F.ok sc_Session_last len (fun cdv A outer s H vs Q E hr h => ⟨t_Session_last K C_Session a_GIVEN_COUNTS P_row_lengths P_most_apart P_clocks_for_all sp_last_of sp_Session_has, ?_, pure vs H Q E h⟩)
  exact pss_cons (ps_if (pt_not ((pw_and (pt_val (pe_meth (pv 0) T.cl_Session m_Session_has G_Session_has (hr.mono (by decide)) b_Session_has .nil pass0 (pa_cons (pv 1) (pa_nil)))) (pw_and1 (pt_val (pe_meth (pv 0) T.cl_Session m_Session_has G_Session_has (hr.mono (by decide)) b_Session_has .nil pass0 (pa_cons (pv 2) (pa_nil)))))).pt)) (pss_one (ps_ret (pe_lst (pa_cons (pe_glob (by rfl) (T.g_NO_EVENT).choose_spec ⟨_, rfl⟩) (pa_nil))))) (pss_nil))
      (pss_one (ps_ret (pe_op op_cat (pe_lst (pa_cons (pe_int) (pa_nil))) (pe_call G_last_of (hr.mono (by decide)) (by rfl) m_last_of k_last_of b_last_of .nil pass0 (pa_cons (pe_ix ix_list (pe_fld (pv 0) (by rfl)) (pv 1) (fun _ _ => rfl)) (pa_cons (pe_ix ix_list (pe_fld (pv 0) (by rfl)) (pv 2) (fun _ _ => rfl)) (pa_nil)))))))
theorem sc_Session_reach : FnScope N_Session_reach ["self", "i", "t", "x"] (defScope s_Session_reach) := ⟨rfl, rfl, rfl, by decide +kernel, rfl, by decide +kernel, by decide +kernel⟩
theorem ok_Session_reach {f : Addr} {fd : FuncData} {sp : Sp} (F : Fun K "reach" "Session.reach" s_Session_reach f fd) (T : Txt K mg C_Session a_GIVEN_COUNTS P_row_lengths P_most_apart P_clocks_for_all) {sp_in_range : Sp} (h_in_range : Df P w K mg base "in_range" 1 ["number"] sp_in_range) {sp_is_heard : Sp} (h_is_heard : Df P w K mg base "is_heard" 1 ["one", "two"] sp_is_heard) {sp_Session_has : Sp} (h_Session_has : Mt P w K mg base C_Session "has" 1 ["self", "i"] sp_Session_has)
    (len : ∀ vs H Q E, sp vs H Q E → vs.length = 4) (pure : ∀ vs H Q E, sp vs H Q E → t_Session_reach K C_Session a_GIVEN_COUNTS P_row_lengths P_most_apart P_clocks_for_all sp_in_range sp_is_heard sp_Session_has { nx := fun _ H' => Q .non H', rt := Q } (start N_Session_reach vs) H) :
    FnOk P w K mg base CX0 2 f fd ["self", "i", "t", "x"] sp := by
  obtain ⟨_, _, G_in_range, m_in_range, k_in_range, b_in_range⟩ := h_in_range.ex
  obtain ⟨_, _, G_is_heard, m_is_heard, k_is_heard, b_is_heard⟩ := h_is_heard.ex
  obtain ⟨_, _, G_Session_has, m_Session_has, b_Session_has⟩ := h_Session_has.ex
  refine F.ok sc_Session_reach len (fun cdv A outer s H vs Q E hr h => ⟨t_Session_reach K C_Session a_GIVEN_COUNTS P_row_lengths P_most_apart P_clocks_for_all sp_in_range sp_is_heard sp_Session_has, ?_, pure vs H Q E h⟩)
  exact pss_cons (ps_if (pt_not (pt_val (pe_meth (pv 0) T.cl_Session m_Session_has G_Session_has (hr.mono (by decide)) b_Session_has .nil pass0 (pa_cons (pv 1) (pa_nil))))) (pss_one (ps_ret (pe_lst (pa_cons (pe_glob (by rfl) (T.g_NO_EVENT).choose_spec ⟨_, rfl⟩) (pa_nil))))) (pss_nil))
      (pss_cons (ps_if (pt_not ((pw_and (pt_val (pe_call G_in_range (hr.mono (by decide)) (by rfl) m_in_range k_in_range b_in_range .nil pass0 (pa_cons (pv 2) (pa_nil)))) (pw_and1 (pt_val (pe_call G_in_range (hr.mono (by decide)) (by rfl) m_in_range k_in_range b_in_range .nil pass0 (pa_cons (pv 3) (pa_nil)))))).pt)) (pss_one (ps_ret (pe_lst (pa_cons (pe_glob (by rfl) (T.g_OUT_OF_RANGE).choose_spec ⟨_, rfl⟩) (pa_nil))))) (pss_nil))
      (pss_one (ps_ret (pe_lst (pa_cons (pe_ifExp (pt_val (pe_call G_is_heard (hr.mono (by decide)) (by rfl) m_is_heard k_is_heard b_is_heard .nil pass0 (pa_cons (pe_ix ix_list (pe_fld (pv 0) (by rfl)) (pv 1) (fun _ _ => rfl)) (pa_cons (pe_tup (pa_cons (pv 2) (pa_cons (pv 3) (pa_nil)))) (pa_nil))))) (pe_int) (pe_int)) (pa_nil))))))
theorem sc_Session_by : FnScope N_Session_by ["self", "i", "t"] (defScope s_Session_by) := ⟨rfl, rfl, rfl, by decide +kernel, rfl, by decide +kernel, by decide +kernel⟩
theorem ok_Session_by {f : Addr} {fd : FuncData} {sp : Sp} (F : Fun K "by" "Session.by" s_Session_by f fd) (T : Txt K mg C_Session a_GIVEN_COUNTS P_row_lengths P_most_apart P_clocks_for_all) {sp_in_range : Sp} (h_in_range : Df P w K mg base "in_range" 1 ["number"] sp_in_range) {sp_Session_has : Sp} (h_Session_has : Mt P w K mg base C_Session "has" 1 ["self", "i"] sp_Session_has)
    (len : ∀ vs H Q E, sp vs H Q E → vs.length = 3) (pure : ∀ vs H Q E, sp vs H Q E → t_Session_by K C_Session a_GIVEN_COUNTS P_row_lengths P_most_apart P_clocks_for_all sp_in_range sp_Session_has { nx := fun _ H' => Q .non H', rt := Q } (start N_Session_by vs) H) :
    FnOk P w K mg base CX0 2 f fd ["self", "i", "t"] sp := by
  obtain ⟨_, _, G_in_range, m_in_range, k_in_range, b_in_range⟩ := h_in_range.ex
  obtain ⟨_, _, G_Session_has, m_Session_has, b_Session_has⟩ := h_Session_has.ex
  refine F.ok sc_Session_by len (fun cdv A outer s H vs Q E hr h => ⟨t_Session_by K C_Session a_GIVEN_COUNTS P_row_lengths P_most_apart P_clocks_for_all sp_in_range sp_Session_has, ?_, pure vs H Q E h⟩)
  exact pss_cons (ps_if (pt_not (pt_val (pe_meth (pv 0) T.cl_Session m_Session_has G_Session_has (hr.mono (by decide)) b_Session_has .nil pass0 (pa_cons (pv 1) (pa_nil))))) (pss_one (ps_ret (pe_lst (pa_cons (pe_glob (by rfl) (T.g_NO_EVENT).choose_spec ⟨_, rfl⟩) (pa_nil))))) (pss_nil))
      (pss_cons (ps_if (pt_not (pt_val (pe_call G_in_range (hr.mono (by decide)) (by rfl) m_in_range k_in_range b_in_range .nil pass0 (pa_cons (pv 2) (pa_nil))))) (pss_one (ps_ret (pe_lst (pa_cons (pe_glob (by rfl) (T.g_OUT_OF_RANGE).choose_spec ⟨_, rfl⟩) (pa_nil))))) (pss_nil))
      (pss_cons (ps_set (i := 3) sc_Session_by.nd rfl (Or.inl rfl) (pe_ix ix_list (pe_fld (pv 0) (by rfl)) (pv 1) (fun _ _ => rfl)))
      (pss_cons (ps_set (i := 4) sc_Session_by.nd rfl (Or.inl rfl) (pe_op op_sub (pv 2) (pe_ix ix_tup (pv 3) (pe_int) (fun _ _ => rfl))))
      (pss_cons (ps_if (pt_cmpR op_lt (pv 4) (pe_int) (nomark _)) (pss_one (ps_ret (pe_lst (pa_cons (pe_glob (by rfl) (T.g_THERE_IS_NONE).choose_spec ⟨_, rfl⟩) (pa_nil))))) (pss_nil))
      (pss_one (ps_ret (pe_lst (pa_cons (pe_int) (pa_cons (pe_op op_sub (pe_ix ix_tup (pv 3) (pe_int) (fun _ _ => rfl)) (pv 4)) (pa_cons (pe_op op_add (pe_ix ix_tup (pv 3) (pe_int) (fun _ _ => rfl)) (pv 4)) (pa_nil)))))))))))
theorem sc_Session_long : FnScope N_Session_long ["self", "i"] (defScope s_Session_long) := ⟨rfl, rfl, rfl, by decide +kernel, rfl, by decide +kernel, by decide +kernel⟩
theorem ok_Session_long {f : Addr} {fd : FuncData} {sp : Sp} (F : Fun K "long" "Session.long" s_Session_long f fd) (T : Txt K mg C_Session a_GIVEN_COUNTS P_row_lengths P_most_apart P_clocks_for_all) {sp_row_lengths : Sp} (h_row_lengths : Df P w K mg base "row_lengths" 4 ["points"] sp_row_lengths) {sp_Session_has : Sp} (h_Session_has : Mt P w K mg base C_Session "has" 1 ["self", "i"] sp_Session_has)
    (len : ∀ vs H Q E, sp vs H Q E → vs.length = 2) (pure : ∀ vs H Q E, sp vs H Q E → t_Session_long K C_Session a_GIVEN_COUNTS P_row_lengths P_most_apart P_clocks_for_all sp_row_lengths sp_Session_has { nx := fun _ H' => Q .non H', rt := Q } (start N_Session_long vs) H) :
    FnOk P w K mg base CX0 5 f fd ["self", "i"] sp := by
  obtain ⟨_, _, G_row_lengths, m_row_lengths, k_row_lengths, b_row_lengths⟩ := h_row_lengths.ex
  obtain ⟨_, _, G_Session_has, m_Session_has, b_Session_has⟩ := h_Session_has.ex
  refine F.ok sc_Session_long len (fun cdv A outer s H vs Q E hr h => ⟨t_Session_long K C_Session a_GIVEN_COUNTS P_row_lengths P_most_apart P_clocks_for_all sp_row_lengths sp_Session_has, ?_, pure vs H Q E h⟩)
  exact pss_cons (ps_if (pt_not (pt_val (pe_meth (pv 0) T.cl_Session m_Session_has G_Session_has (hr.mono (by decide)) b_Session_has .nil pass0 (pa_cons (pv 1) (pa_nil))))) (pss_one (ps_ret (pe_lst (pa_cons (pe_glob (by rfl) (T.g_NO_EVENT).choose_spec ⟨_, rfl⟩) (pa_nil))))) (pss_nil))
      (pss_one (ps_ret (pe_lst (pa_cons (pe_ix ix_list (pe_call G_row_lengths (hr.mono (by decide)) (by rfl) m_row_lengths k_row_lengths b_row_lengths .nil pass0 (pa_cons (pe_fld (pv 0) (by rfl)) (pa_nil))) (pv 1) (fun _ _ => rfl)) (pa_nil)))))
theorem sc_Session_longest : FnScope N_Session_longest ["self"] (defScope s_Session_longest) := ⟨rfl, rfl, rfl, by decide +kernel, rfl, by decide +kernel, by decide +kernel⟩
theorem ok_Session_longest {f : Addr} {fd : FuncData} {sp : Sp} (F : Fun K "longest" "Session.longest" s_Session_longest f fd) (T : Txt K mg C_Session a_GIVEN_COUNTS P_row_lengths P_most_apart P_clocks_for_all) {sp_longest_row : Sp} (h_longest_row : Df P w K mg base "longest_row" 5 ["points"] sp_longest_row)
    (len : ∀ vs H Q E, sp vs H Q E → vs.length = 1) (pure : ∀ vs H Q E, sp vs H Q E → t_Session_longest K C_Session a_GIVEN_COUNTS P_row_lengths P_most_apart P_clocks_for_all sp_longest_row { nx := fun _ H' => Q .non H', rt := Q } (start N_Session_longest vs) H) :
    FnOk P w K mg base CX0 6 f fd ["self"] sp := by
  obtain ⟨_, _, G_longest_row, m_longest_row, k_longest_row, b_longest_row⟩ := h_longest_row.ex
  refine F.ok sc_Session_longest len (fun cdv A outer s H vs Q E hr h => ⟨t_Session_longest K C_Session a_GIVEN_COUNTS P_row_lengths P_most_apart P_clocks_for_all sp_longest_row, ?_, pure vs H Q E h⟩)
  exact pss_one (ps_ret (pe_lst (pa_cons (pe_call G_longest_row (hr.mono (by decide)) (by rfl) m_longest_row k_longest_row b_longest_row .nil pass0 (pa_cons (pe_fld (pv 0) (by rfl)) (pa_nil))) (pa_nil))))
theorem sc_Session_clock : FnScope N_Session_clock ["self"] (defScope s_Session_clock) := ⟨rfl, rfl, rfl, by decide +kernel, rfl, by decide +kernel, by decide +kernel⟩
theorem ok_Session_clock {f : Addr} {fd : FuncData} {sp : Sp} (F : Fun K "clock" "Session.clock" s_Session_clock f fd) (T : Txt K mg C_Session a_GIVEN_COUNTS P_row_lengths P_most_apart P_clocks_for_all) {sp_counted : Sp} (h_counted : Df P w K mg base "counted" 1 ["numbers"] sp_counted) {sp_clock_of : Sp} (h_clock_of : Df P w K mg base "clock_of" 5 ["points"] sp_clock_of)
    (len : ∀ vs H Q E, sp vs H Q E → vs.length = 1) (pure : ∀ vs H Q E, sp vs H Q E → t_Session_clock K C_Session a_GIVEN_COUNTS P_row_lengths P_most_apart P_clocks_for_all sp_counted sp_clock_of { nx := fun _ H' => Q .non H', rt := Q } (start N_Session_clock vs) H) :
    FnOk P w K mg base CX0 6 f fd ["self"] sp := by
  obtain ⟨_, _, G_counted, m_counted, k_counted, b_counted⟩ := h_counted.ex
  obtain ⟨_, _, G_clock_of, m_clock_of, k_clock_of, b_clock_of⟩ := h_clock_of.ex
  refine F.ok sc_Session_clock len (fun cdv A outer s H vs Q E hr h => ⟨t_Session_clock K C_Session a_GIVEN_COUNTS P_row_lengths P_most_apart P_clocks_for_all sp_counted sp_clock_of, ?_, pure vs H Q E h⟩)
  exact pss_one (ps_ret (pe_call G_counted (hr.mono (by decide)) (by rfl) m_counted k_counted b_counted .nil pass0 (pa_cons (pe_call G_clock_of (hr.mono (by decide)) (by rfl) m_clock_of k_clock_of b_clock_of .nil pass0 (pa_cons (pe_fld (pv 0) (by rfl)) (pa_nil))) (pa_nil))))
theorem sc_Session_most : FnScope N_Session_most ["self"] (defScope s_Session_most) := ⟨rfl, rfl, rfl, by decide +kernel, rfl, by decide +kernel, by decide +kernel⟩
theorem ok_Session_most {f : Addr} {fd : FuncData} {sp : Sp} (F : Fun K "most" "Session.most" s_Session_most f fd) (T : Txt K mg C_Session a_GIVEN_COUNTS P_row_lengths P_most_apart P_clocks_for_all) {sp_most_apart : Sp} (h_most_apart : Df P w K mg base "most_apart" 4 ["points"] sp_most_apart)
    (len : ∀ vs H Q E, sp vs H Q E → vs.length = 1) (pure : ∀ vs H Q E, sp vs H Q E → t_Session_most K C_Session a_GIVEN_COUNTS P_row_lengths P_most_apart P_clocks_for_all sp_most_apart { nx := fun _ H' => Q .non H', rt := Q } (start N_Session_most vs) H) :
    FnOk P w K mg base CX0 5 f fd ["self"] sp := by
  obtain ⟨_, _, G_most_apart, m_most_apart, k_most_apart, b_most_apart⟩ := h_most_apart.ex
  refine F.ok sc_Session_most len (fun cdv A outer s H vs Q E hr h => ⟨t_Session_most K C_Session a_GIVEN_COUNTS P_row_lengths P_most_apart P_clocks_for_all sp_most_apart, ?_, pure vs H Q E h⟩)
  exact pss_one (ps_ret (pe_lst (pa_cons (pe_call G_most_apart (hr.mono (by decide)) (by rfl) m_most_apart k_most_apart b_most_apart .nil pass0 (pa_cons (pe_fld (pv 0) (by rfl)) (pa_nil))) (pa_nil))))
theorem sc_Session_clocks : FnScope N_Session_clocks ["self"] (defScope s_Session_clocks) := ⟨rfl, rfl, rfl, by decide +kernel, rfl, by decide +kernel, by decide +kernel⟩
theorem ok_Session_clocks {f : Addr} {fd : FuncData} {sp : Sp} (F : Fun K "clocks" "Session.clocks" s_Session_clocks f fd) (T : Txt K mg C_Session a_GIVEN_COUNTS P_row_lengths P_most_apart P_clocks_for_all) {sp_clocks_for_all : Sp} (h_clocks_for_all : Df P w K mg base "clocks_for_all" 5 ["points"] sp_clocks_for_all) {sp_counted : Sp} (h_counted : Df P w K mg base "counted" 1 ["numbers"] sp_counted)
    (len : ∀ vs H Q E, sp vs H Q E → vs.length = 1) (pure : ∀ vs H Q E, sp vs H Q E → t_Session_clocks K C_Session a_GIVEN_COUNTS P_row_lengths P_most_apart P_clocks_for_all sp_clocks_for_all sp_counted { nx := fun _ H' => Q .non H', rt := Q } (start N_Session_clocks vs) H) :
    FnOk P w K mg base CX0 6 f fd ["self"] sp := by
  obtain ⟨_, _, G_clocks_for_all, m_clocks_for_all, k_clocks_for_all, b_clocks_for_all⟩ := h_clocks_for_all.ex
  obtain ⟨_, _, G_counted, m_counted, k_counted, b_counted⟩ := h_counted.ex
  refine F.ok sc_Session_clocks len (fun cdv A outer s H vs Q E hr h => ⟨t_Session_clocks K C_Session a_GIVEN_COUNTS P_row_lengths P_most_apart P_clocks_for_all sp_clocks_for_all sp_counted, ?_, pure vs H Q E h⟩)
  exact pss_cons (ps_set (i := 1) sc_Session_clocks.nd rfl (Or.inl rfl) (pe_call G_clocks_for_all (hr.mono (by decide)) (by rfl) m_clocks_for_all k_clocks_for_all b_clocks_for_all .nil pass0 (pa_cons (pe_fld (pv 0) (by rfl)) (pa_nil))))
      (pss_cons (ps_set (i := 2) sc_Session_clocks.nd rfl (Or.inl rfl) (pe_lst (pa_cons (pe_callB call_len_seq (by rfl) T.n_len PySem.boot_len (pa_cons (pv 1) (pa_nil))) (pa_nil))))
      (pss_cons (ps_for PassesOwn.never rfl (pi_list (pv 1)) (pg_name (i := 3) sc_Session_clocks.nd rfl (Or.inl rfl)) (pss_one (ps_expr (pe_bm PySem.F.plainAttrs_list PySem.F.slot_list_extend PySem.F.type_list_extend mt_extend (pv 2) (pa_cons (pe_call G_counted (hr.mono (by decide)) (by rfl) m_counted k_counted b_counted .nil pass0 (pa_cons (pv 3) (pa_nil))) (pa_nil))))))
      (pss_one (ps_ret (pv 2)))))
theorem sc_change : FnScope N_change ["session", "number", "given"] (defScope s_change) := ⟨rfl, rfl, rfl, by decide +kernel, rfl, by decide +kernel, by decide +kernel⟩
theorem ok_change {f : Addr} {fd : FuncData} {sp : Sp} (F : Fun K "change" "change" s_change f fd) (T : Txt K mg C_Session a_GIVEN_COUNTS P_row_lengths P_most_apart P_clocks_for_all) {sp_Session_put : Sp} (h_Session_put : Mt P w K mg base C_Session "put" 2 ["self", "t", "x"] sp_Session_put) {sp_Session_drop : Sp} (h_Session_drop : Mt P w K mg base C_Session "drop" 2 ["self", "i"] sp_Session_drop) {sp_Session_move : Sp} (h_Session_move : Mt P w K mg base C_Session "move" 2 ["self", "i", "t", "x"] sp_Session_move) {sp_Session_turn : Sp} (h_Session_turn : Mt P w K mg base C_Session "turn" 2 ["self"] sp_Session_turn)
    (len : ∀ vs H Q E, sp vs H Q E → vs.length = 3) (pure : ∀ vs H Q E, sp vs H Q E → t_change K C_Session a_GIVEN_COUNTS P_row_lengths P_most_apart P_clocks_for_all sp_Session_put sp_Session_drop sp_Session_move sp_Session_turn { nx := fun _ H' => Q .non H', rt := Q } (start N_change vs) H) :
    FnOk P w K mg base CX0 3 f fd ["session", "number", "given"] sp := by
  obtain ⟨_, _, G_Session_put, m_Session_put, b_Session_put⟩ := h_Session_put.ex
  obtain ⟨_, _, G_Session_drop, m_Session_drop, b_Session_drop⟩ := h_Session_drop.ex
  obtain ⟨_, _, G_Session_move, m_Session_move, b_Session_move⟩ := h_Session_move.ex
  obtain ⟨_, _, G_Session_turn, m_Session_turn, b_Session_turn⟩ := h_Session_turn.ex
  refine F.ok sc_change len (fun cdv A outer s H vs Q E hr h => ⟨t_change K C_Session a_GIVEN_COUNTS P_row_lengths P_most_apart P_clocks_for_all sp_Session_put sp_Session_drop sp_Session_move sp_Session_turn, ?_, pure vs H Q E h⟩)
  exact pss_cons (ps_if (pt_cmpR op_eq (pv 1) (pe_glob (by rfl) (T.g_PUT).choose_spec ⟨_, rfl⟩) (nomark _)) (pss_one (ps_ret (pe_meth (pv 0) T.cl_Session m_Session_put G_Session_put (hr.mono (by decide)) b_Session_put .nil pass0 (pa_cons (pe_ix ix_list (pv 2) (pe_int) (fun _ _ => rfl)) (pa_cons (pe_ix ix_list (pv 2) (pe_int) (fun _ _ => rfl)) (pa_nil)))))) (pss_nil))
      (pss_cons (ps_if (pt_cmpR op_eq (pv 1) (pe_glob (by rfl) (T.g_DROP).choose_spec ⟨_, rfl⟩) (nomark _)) (pss_one (ps_ret (pe_meth (pv 0) T.cl_Session m_Session_drop G_Session_drop (hr.mono (by decide)) b_Session_drop .nil pass0 (pa_cons (pe_ix ix_list (pv 2) (pe_int) (fun _ _ => rfl)) (pa_nil))))) (pss_nil))
      (pss_cons (ps_if (pt_cmpR op_eq (pv 1) (pe_glob (by rfl) (T.g_MOVE).choose_spec ⟨_, rfl⟩) (nomark _)) (pss_one (ps_ret (pe_meth (pv 0) T.cl_Session m_Session_move G_Session_move (hr.mono (by decide)) b_Session_move .nil pass0 (pa_cons (pe_ix ix_list (pv 2) (pe_int) (fun _ _ => rfl)) (pa_cons (pe_ix ix_list (pv 2) (pe_int) (fun _ _ => rfl)) (pa_cons (pe_ix ix_list (pv 2) (pe_int) (fun _ _ => rfl)) (pa_nil))))))) (pss_nil))
      (pss_one (ps_ret (pe_meth0 (pv 0) T.cl_Session m_Session_turn G_Session_turn (hr.mono (by decide)) b_Session_turn .nil pass0)))))
theorem sc_tell_heard : FnScope N_tell_heard ["session", "number", "given"] (defScope s_tell_heard) := ⟨rfl, rfl, rfl, by decide +kernel, rfl, by decide +kernel, by decide +kernel⟩
theorem ok_tell_heard {f : Addr} {fd : FuncData} {sp : Sp} (F : Fun K "tell_heard" "tell_heard" s_tell_heard f fd) (T : Txt K mg C_Session a_GIVEN_COUNTS P_row_lengths P_most_apart P_clocks_for_all) {sp_Session_heard : Sp} (h_Session_heard : Mt P w K mg base C_Session "heard" 2 ["self", "i", "j"] sp_Session_heard) {sp_Session_kind : Sp} (h_Session_kind : Mt P w K mg base C_Session "kind" 3 ["self", "i", "j"] sp_Session_kind) {sp_Session_square : Sp} (h_Session_square : Mt P w K mg base C_Session "square" 2 ["self", "i", "j"] sp_Session_square) {sp_Session_past : Sp} (h_Session_past : Mt P w K mg base C_Session "past" 2 ["self", "i"] sp_Session_past) {sp_Session_future : Sp} (h_Session_future : Mt P w K mg base C_Session "future" 2 ["self", "i"] sp_Session_future) {sp_Session_between : Sp} (h_Session_between : Mt P w K mg base C_Session "between" 2 ["self", "i", "j"] sp_Session_between) {sp_Session_aside : Sp} (h_Session_aside : Mt P w K mg base C_Session "aside" 3 ["self", "i"] sp_Session_aside)
    (len : ∀ vs H Q E, sp vs H Q E → vs.length = 3) (pure : ∀ vs H Q E, sp vs H Q E → t_tell_heard K C_Session a_GIVEN_COUNTS P_row_lengths P_most_apart P_clocks_for_all sp_Session_heard sp_Session_kind sp_Session_square sp_Session_past sp_Session_future sp_Session_between sp_Session_aside { nx := fun _ H' => Q .non H', rt := Q } (start N_tell_heard vs) H) :
    FnOk P w K mg base CX0 4 f fd ["session", "number", "given"] sp := by
  obtain ⟨_, _, G_Session_heard, m_Session_heard, b_Session_heard⟩ := h_Session_heard.ex
  obtain ⟨_, _, G_Session_kind, m_Session_kind, b_Session_kind⟩ := h_Session_kind.ex
  obtain ⟨_, _, G_Session_square, m_Session_square, b_Session_square⟩ := h_Session_square.ex
  obtain ⟨_, _, G_Session_past, m_Session_past, b_Session_past⟩ := h_Session_past.ex
  obtain ⟨_, _, G_Session_future, m_Session_future, b_Session_future⟩ := h_Session_future.ex
  obtain ⟨_, _, G_Session_between, m_Session_between, b_Session_between⟩ := h_Session_between.ex
  obtain ⟨_, _, G_Session_aside, m_Session_aside, b_Session_aside⟩ := h_Session_aside.ex
  refine F.ok sc_tell_heard len (fun cdv A outer s H vs Q E hr h => ⟨t_tell_heard K C_Session a_GIVEN_COUNTS P_row_lengths P_most_apart P_clocks_for_all sp_Session_heard sp_Session_kind sp_Session_square sp_Session_past sp_Session_future sp_Session_between sp_Session_aside, ?_, pure vs H Q E h⟩)
  exact pss_cons (ps_if (pt_cmpR op_eq (pv 1) (pe_glob (by rfl) (T.g_HEARD).choose_spec ⟨_, rfl⟩) (nomark _)) (pss_one (ps_ret (pe_meth (pv 0) T.cl_Session m_Session_heard G_Session_heard (hr.mono (by decide)) b_Session_heard .nil pass0 (pa_cons (pe_ix ix_list (pv 2) (pe_int) (fun _ _ => rfl)) (pa_cons (pe_ix ix_list (pv 2) (pe_int) (fun _ _ => rfl)) (pa_nil)))))) (pss_nil))
      (pss_cons (ps_if (pt_cmpR op_eq (pv 1) (pe_glob (by rfl) (T.g_KIND).choose_spec ⟨_, rfl⟩) (nomark _)) (pss_one (ps_ret (pe_meth (pv 0) T.cl_Session m_Session_kind G_Session_kind (hr.mono (by decide)) b_Session_kind .nil pass0 (pa_cons (pe_ix ix_list (pv 2) (pe_int) (fun _ _ => rfl)) (pa_cons (pe_ix ix_list (pv 2) (pe_int) (fun _ _ => rfl)) (pa_nil)))))) (pss_nil))
      (pss_cons (ps_if (pt_cmpR op_eq (pv 1) (pe_glob (by rfl) (T.g_SQUARE).choose_spec ⟨_, rfl⟩) (nomark _)) (pss_one (ps_ret (pe_meth (pv 0) T.cl_Session m_Session_square G_Session_square (hr.mono (by decide)) b_Session_square .nil pass0 (pa_cons (pe_ix ix_list (pv 2) (pe_int) (fun _ _ => rfl)) (pa_cons (pe_ix ix_list (pv 2) (pe_int) (fun _ _ => rfl)) (pa_nil)))))) (pss_nil))
      (pss_cons (ps_if (pt_cmpR op_eq (pv 1) (pe_glob (by rfl) (T.g_PAST).choose_spec ⟨_, rfl⟩) (nomark _)) (pss_one (ps_ret (pe_meth (pv 0) T.cl_Session m_Session_past G_Session_past (hr.mono (by decide)) b_Session_past .nil pass0 (pa_cons (pe_ix ix_list (pv 2) (pe_int) (fun _ _ => rfl)) (pa_nil))))) (pss_nil))
      (pss_cons (ps_if (pt_cmpR op_eq (pv 1) (pe_glob (by rfl) (T.g_FUTURE).choose_spec ⟨_, rfl⟩) (nomark _)) (pss_one (ps_ret (pe_meth (pv 0) T.cl_Session m_Session_future G_Session_future (hr.mono (by decide)) b_Session_future .nil pass0 (pa_cons (pe_ix ix_list (pv 2) (pe_int) (fun _ _ => rfl)) (pa_nil))))) (pss_nil))
      (pss_cons (ps_if (pt_cmpR op_eq (pv 1) (pe_glob (by rfl) (T.g_BETWEEN).choose_spec ⟨_, rfl⟩) (nomark _)) (pss_one (ps_ret (pe_meth (pv 0) T.cl_Session m_Session_between G_Session_between (hr.mono (by decide)) b_Session_between .nil pass0 (pa_cons (pe_ix ix_list (pv 2) (pe_int) (fun _ _ => rfl)) (pa_cons (pe_ix ix_list (pv 2) (pe_int) (fun _ _ => rfl)) (pa_nil)))))) (pss_nil))
      (pss_one (ps_ret (pe_meth (pv 0) T.cl_Session m_Session_aside G_Session_aside (hr.mono (by decide)) b_Session_aside .nil pass0 (pa_cons (pe_ix ix_list (pv 2) (pe_int) (fun _ _ => rfl)) (pa_nil))))))))))
theorem sc_tell_light : FnScope N_tell_light ["session", "number", "given"] (defScope s_tell_light) := ⟨rfl, rfl, rfl, by decide +kernel, rfl, by decide +kernel, by decide +kernel⟩
theorem ok_tell_light {f : Addr} {fd : FuncData} {sp : Sp} (F : Fun K "tell_light" "tell_light" s_tell_light f fd) (T : Txt K mg C_Session a_GIVEN_COUNTS P_row_lengths P_most_apart P_clocks_for_all) {sp_Session_first : Sp} (h_Session_first : Mt P w K mg base C_Session "first" 4 ["self", "i", "j"] sp_Session_first) {sp_Session_last : Sp} (h_Session_last : Mt P w K mg base C_Session "last" 4 ["self", "i", "j"] sp_Session_last) {sp_Session_reach : Sp} (h_Session_reach : Mt P w K mg base C_Session "reach" 2 ["self", "i", "t", "x"] sp_Session_reach) {sp_Session_by : Sp} (h_Session_by : Mt P w K mg base C_Session "by" 2 ["self", "i", "t"] sp_Session_by)
    (len : ∀ vs H Q E, sp vs H Q E → vs.length = 3) (pure : ∀ vs H Q E, sp vs H Q E → t_tell_light K C_Session a_GIVEN_COUNTS P_row_lengths P_most_apart P_clocks_for_all sp_Session_first sp_Session_last sp_Session_reach sp_Session_by { nx := fun _ H' => Q .non H', rt := Q } (start N_tell_light vs) H) :
    FnOk P w K mg base CX0 5 f fd ["session", "number", "given"] sp := by
  obtain ⟨_, _, G_Session_first, m_Session_first, b_Session_first⟩ := h_Session_first.ex
  obtain ⟨_, _, G_Session_last, m_Session_last, b_Session_last⟩ := h_Session_last.ex
  obtain ⟨_, _, G_Session_reach, m_Session_reach, b_Session_reach⟩ := h_Session_reach.ex
  obtain ⟨_, _, G_Session_by, m_Session_by, b_Session_by⟩ := h_Session_by.ex
  refine F.ok sc_tell_light len (fun cdv A outer s H vs Q E hr h => ⟨t_tell_light K C_Session a_GIVEN_COUNTS P_row_lengths P_most_apart P_clocks_for_all sp_Session_first sp_Session_last sp_Session_reach sp_Session_by, ?_, pure vs H Q E h⟩)
  exact pss_cons (ps_if (pt_cmpR op_eq (pv 1) (pe_glob (by rfl) (T.g_FIRST).choose_spec ⟨_, rfl⟩) (nomark _)) (pss_one (ps_ret (pe_meth (pv 0) T.cl_Session m_Session_first G_Session_first (hr.mono (by decide)) b_Session_first .nil pass0 (pa_cons (pe_ix ix_list (pv 2) (pe_int) (fun _ _ => rfl)) (pa_cons (pe_ix ix_list (pv 2) (pe_int) (fun _ _ => rfl)) (pa_nil)))))) (pss_nil))
      (pss_cons (ps_if (pt_cmpR op_eq (pv 1) (pe_glob (by rfl) (T.g_LAST).choose_spec ⟨_, rfl⟩) (nomark _)) (pss_one (ps_ret (pe_meth (pv 0) T.cl_Session m_Session_last G_Session_last (hr.mono (by decide)) b_Session_last .nil pass0 (pa_cons (pe_ix ix_list (pv 2) (pe_int) (fun _ _ => rfl)) (pa_cons (pe_ix ix_list (pv 2) (pe_int) (fun _ _ => rfl)) (pa_nil)))))) (pss_nil))
      (pss_cons (ps_if (pt_cmpR op_eq (pv 1) (pe_glob (by rfl) (T.g_REACH).choose_spec ⟨_, rfl⟩) (nomark _)) (pss_one (ps_ret (pe_meth (pv 0) T.cl_Session m_Session_reach G_Session_reach (hr.mono (by decide)) b_Session_reach .nil pass0 (pa_cons (pe_ix ix_list (pv 2) (pe_int) (fun _ _ => rfl)) (pa_cons (pe_ix ix_list (pv 2) (pe_int) (fun _ _ => rfl)) (pa_cons (pe_ix ix_list (pv 2) (pe_int) (fun _ _ => rfl)) (pa_nil))))))) (pss_nil))
      (pss_one (ps_ret (pe_meth (pv 0) T.cl_Session m_Session_by G_Session_by (hr.mono (by decide)) b_Session_by .nil pass0 (pa_cons (pe_ix ix_list (pv 2) (pe_int) (fun _ _ => rfl)) (pa_cons (pe_ix ix_list (pv 2) (pe_int) (fun _ _ => rfl)) (pa_nil))))))))
theorem sc_tell_rows : FnScope N_tell_rows ["session", "number", "given"] (defScope s_tell_rows) := ⟨rfl, rfl, rfl, by decide +kernel, rfl, by decide +kernel, by decide +kernel⟩
theorem ok_tell_rows {f : Addr} {fd : FuncData} {sp : Sp} (F : Fun K "tell_rows" "tell_rows" s_tell_rows f fd) (T : Txt K mg C_Session a_GIVEN_COUNTS P_row_lengths P_most_apart P_clocks_for_all) {sp_Session_long : Sp} (h_Session_long : Mt P w K mg base C_Session "long" 5 ["self", "i"] sp_Session_long) {sp_Session_longest : Sp} (h_Session_longest : Mt P w K mg base C_Session "longest" 6 ["self"] sp_Session_longest) {sp_Session_clock : Sp} (h_Session_clock : Mt P w K mg base C_Session "clock" 6 ["self"] sp_Session_clock) {sp_Session_most : Sp} (h_Session_most : Mt P w K mg base C_Session "most" 5 ["self"] sp_Session_most) {sp_Session_clocks : Sp} (h_Session_clocks : Mt P w K mg base C_Session "clocks" 6 ["self"] sp_Session_clocks)
    (len : ∀ vs H Q E, sp vs H Q E → vs.length = 3) (pure : ∀ vs H Q E, sp vs H Q E → t_tell_rows K C_Session a_GIVEN_COUNTS P_row_lengths P_most_apart P_clocks_for_all sp_Session_long sp_Session_longest sp_Session_clock sp_Session_most sp_Session_clocks { nx := fun _ H' => Q .non H', rt := Q } (start N_tell_rows vs) H) :
    FnOk P w K mg base CX0 7 f fd ["session", "number", "given"] sp := by
  obtain ⟨_, _, G_Session_long, m_Session_long, b_Session_long⟩ := h_Session_long.ex
  obtain ⟨_, _, G_Session_longest, m_Session_longest, b_Session_longest⟩ := h_Session_longest.ex
  obtain ⟨_, _, G_Session_clock, m_Session_clock, b_Session_clock⟩ := h_Session_clock.ex
  obtain ⟨_, _, G_Session_most, m_Session_most, b_Session_most⟩ := h_Session_most.ex
  obtain ⟨_, _, G_Session_clocks, m_Session_clocks, b_Session_clocks⟩ := h_Session_clocks.ex
  refine F.ok sc_tell_rows len (fun cdv A outer s H vs Q E hr h => ⟨t_tell_rows K C_Session a_GIVEN_COUNTS P_row_lengths P_most_apart P_clocks_for_all sp_Session_long sp_Session_longest sp_Session_clock sp_Session_most sp_Session_clocks, ?_, pure vs H Q E h⟩)
  exact pss_cons (ps_if (pt_cmpR op_eq (pv 1) (pe_glob (by rfl) (T.g_LONG).choose_spec ⟨_, rfl⟩) (nomark _)) (pss_one (ps_ret (pe_meth (pv 0) T.cl_Session m_Session_long G_Session_long (hr.mono (by decide)) b_Session_long .nil pass0 (pa_cons (pe_ix ix_list (pv 2) (pe_int) (fun _ _ => rfl)) (pa_nil))))) (pss_nil))
      (pss_cons (ps_if (pt_cmpR op_eq (pv 1) (pe_glob (by rfl) (T.g_LONGEST).choose_spec ⟨_, rfl⟩) (nomark _)) (pss_one (ps_ret (pe_meth0 (pv 0) T.cl_Session m_Session_longest G_Session_longest (hr.mono (by decide)) b_Session_longest .nil pass0))) (pss_nil))
      (pss_cons (ps_if (pt_cmpR op_eq (pv 1) (pe_glob (by rfl) (T.g_CLOCK).choose_spec ⟨_, rfl⟩) (nomark _)) (pss_one (ps_ret (pe_meth0 (pv 0) T.cl_Session m_Session_clock G_Session_clock (hr.mono (by decide)) b_Session_clock .nil pass0))) (pss_nil))
      (pss_cons (ps_if (pt_cmpR op_eq (pv 1) (pe_glob (by rfl) (T.g_MOST).choose_spec ⟨_, rfl⟩) (nomark _)) (pss_one (ps_ret (pe_meth0 (pv 0) T.cl_Session m_Session_most G_Session_most (hr.mono (by decide)) b_Session_most .nil pass0))) (pss_nil))
      (pss_one (ps_ret (pe_meth0 (pv 0) T.cl_Session m_Session_clocks G_Session_clocks (hr.mono (by decide)) b_Session_clocks .nil pass0))))))
theorem sc_answer : FnScope N_answer ["session", "number", "given"] (defScope s_answer) := ⟨rfl, rfl, rfl, by decide +kernel, rfl, by decide +kernel, by decide +kernel⟩
theorem ok_answer {f : Addr} {fd : FuncData} {sp : Sp} (F : Fun K "answer" "answer" s_answer f fd) (T : Txt K mg C_Session a_GIVEN_COUNTS P_row_lengths P_most_apart P_clocks_for_all) {sp_change : Sp} (h_change : Df P w K mg base "change" 3 ["session", "number", "given"] sp_change) {sp_tell_heard : Sp} (h_tell_heard : Df P w K mg base "tell_heard" 4 ["session", "number", "given"] sp_tell_heard) {sp_tell_light : Sp} (h_tell_light : Df P w K mg base "tell_light" 5 ["session", "number", "given"] sp_tell_light) {sp_tell_rows : Sp} (h_tell_rows : Df P w K mg base "tell_rows" 7 ["session", "number", "given"] sp_tell_rows) {sp_Session_begin : Sp} (h_Session_begin : Mt P w K mg base C_Session "begin" 1 ["self"] sp_Session_begin) {sp_Session_events : Sp} (h_Session_events : Mt P w K mg base C_Session "events" 1 ["self"] sp_Session_events) {sp_Session_back : Sp} (h_Session_back : Mt P w K mg base C_Session "back" 1 ["self"] sp_Session_back) {sp_Session_state : Sp} (h_Session_state : Mt P w K mg base C_Session "state" 1 ["self"] sp_Session_state)
    (len : ∀ vs H Q E, sp vs H Q E → vs.length = 3) (pure : ∀ vs H Q E, sp vs H Q E → t_answer K C_Session a_GIVEN_COUNTS P_row_lengths P_most_apart P_clocks_for_all sp_change sp_tell_heard sp_tell_light sp_tell_rows sp_Session_begin sp_Session_events sp_Session_back sp_Session_state { nx := fun _ H' => Q .non H', rt := Q } (start N_answer vs) H) :
    FnOk P w K mg base CX0 8 f fd ["session", "number", "given"] sp := by
  obtain ⟨_, _, G_change, m_change, k_change, b_change⟩ := h_change.ex
  obtain ⟨_, _, G_tell_heard, m_tell_heard, k_tell_heard, b_tell_heard⟩ := h_tell_heard.ex
  obtain ⟨_, _, G_tell_light, m_tell_light, k_tell_light, b_tell_light⟩ := h_tell_light.ex
  obtain ⟨_, _, G_tell_rows, m_tell_rows, k_tell_rows, b_tell_rows⟩ := h_tell_rows.ex
  obtain ⟨_, _, G_Session_begin, m_Session_begin, b_Session_begin⟩ := h_Session_begin.ex
  obtain ⟨_, _, G_Session_events, m_Session_events, b_Session_events⟩ := h_Session_events.ex
  obtain ⟨_, _, G_Session_back, m_Session_back, b_Session_back⟩ := h_Session_back.ex
  obtain ⟨_, _, G_Session_state, m_Session_state, b_Session_state⟩ := h_Session_state.ex
  refine F.ok sc_answer len (fun cdv A outer s H vs Q E hr h => ⟨t_answer K C_Session a_GIVEN_COUNTS P_row_lengths P_most_apart P_clocks_for_all sp_change sp_tell_heard sp_tell_light sp_tell_rows sp_Session_begin sp_Session_events sp_Session_back sp_Session_state, ?_, pure vs H Q E h⟩)
  exact pss_cons (ps_if (pt_cmpR op_eq (pv 1) (pe_glob (by rfl) (T.g_BEGIN).choose_spec ⟨_, rfl⟩) (nomark _)) (pss_one (ps_ret (pe_meth0 (pv 0) T.cl_Session m_Session_begin G_Session_begin (hr.mono (by decide)) b_Session_begin .nil pass0))) (pss_nil))
      (pss_cons (ps_if (pt_not (pt_val (pe_fld (pv 0) (by rfl)))) (pss_one (ps_ret (pe_lst (pa_cons (pe_glob (by rfl) (T.g_NOT_BEGUN).choose_spec ⟨_, rfl⟩) (pa_nil))))) (pss_nil))
      (pss_cons (ps_if (pt_cmpR op_le (pv 1) (pe_glob (by rfl) (T.g_TURN).choose_spec ⟨_, rfl⟩) (nomark _)) (pss_one (ps_ret (pe_call G_change (hr.mono (by decide)) (by rfl) m_change k_change b_change .nil pass0 (pa_cons (pv 0) (pa_cons (pv 1) (pa_cons (pv 2) (pa_nil))))))) (pss_nil))
      (pss_cons (ps_if (pt_cmpR op_eq (pv 1) (pe_glob (by rfl) (T.g_EVENTS).choose_spec ⟨_, rfl⟩) (nomark _)) (pss_one (ps_ret (pe_meth0 (pv 0) T.cl_Session m_Session_events G_Session_events (hr.mono (by decide)) b_Session_events .nil pass0))) (pss_nil))
      (pss_cons (ps_if (pt_cmpR op_le (pv 1) (pe_glob (by rfl) (T.g_ASIDE).choose_spec ⟨_, rfl⟩) (nomark _)) (pss_one (ps_ret (pe_call G_tell_heard (hr.mono (by decide)) (by rfl) m_tell_heard k_tell_heard b_tell_heard .nil pass0 (pa_cons (pv 0) (pa_cons (pv 1) (pa_cons (pv 2) (pa_nil))))))) (pss_nil))
      (pss_cons (ps_if (pt_cmpR op_le (pv 1) (pe_glob (by rfl) (T.g_BY).choose_spec ⟨_, rfl⟩) (nomark _)) (pss_one (ps_ret (pe_call G_tell_light (hr.mono (by decide)) (by rfl) m_tell_light k_tell_light b_tell_light .nil pass0 (pa_cons (pv 0) (pa_cons (pv 1) (pa_cons (pv 2) (pa_nil))))))) (pss_nil))
      (pss_cons (ps_if (pt_cmpR op_le (pv 1) (pe_glob (by rfl) (T.g_CLOCKS).choose_spec ⟨_, rfl⟩) (nomark _)) (pss_one (ps_ret (pe_call G_tell_rows (hr.mono (by decide)) (by rfl) m_tell_rows k_tell_rows b_tell_rows .nil pass0 (pa_cons (pv 0) (pa_cons (pv 1) (pa_cons (pv 2) (pa_nil))))))) (pss_nil))
      (pss_cons (ps_if (pt_cmpR op_eq (pv 1) (pe_glob (by rfl) (T.g_BACK).choose_spec ⟨_, rfl⟩) (nomark _)) (pss_one (ps_ret (pe_meth0 (pv 0) T.cl_Session m_Session_back G_Session_back (hr.mono (by decide)) b_Session_back .nil pass0))) (pss_nil))
      (pss_one (ps_ret (pe_meth0 (pv 0) T.cl_Session m_Session_state G_Session_state (hr.mono (by decide)) b_Session_state .nil pass0))))))))))
theorem sc_answers : FnScope N_answers ["calls"] (defScope s_answers) := ⟨rfl, rfl, rfl, by decide +kernel, rfl, by decide +kernel, by decide +kernel⟩
theorem ok_answers {f : Addr} {fd : FuncData} {sp : Sp} (F : Fun K "answers" "answers" s_answers f fd) (T : Txt K mg C_Session a_GIVEN_COUNTS P_row_lengths P_most_apart P_clocks_for_all) {sp_counted : Sp} (h_counted : Df P w K mg base "counted" 1 ["numbers"] sp_counted) {sp_answer : Sp} (h_answer : Df P w K mg base "answer" 8 ["session", "number", "given"] sp_answer) {sp_Session_init : Sp} (h_Session_init : Mc P w K mg base C_Session 1 ["self"] sp_Session_init)
    (len : ∀ vs H Q E, sp vs H Q E → vs.length = 1) (pure : ∀ vs H Q E, sp vs H Q E → t_answers K C_Session a_GIVEN_COUNTS P_row_lengths P_most_apart P_clocks_for_all sp_counted sp_answer sp_Session_init { nx := fun _ H' => Q .non H', rt := Q } (start N_answers vs) H) :
    FnOk P w K mg base CX0 9 f fd ["calls"] sp := by
  obtain ⟨_, _, G_counted, m_counted, k_counted, b_counted⟩ := h_counted.ex
  obtain ⟨_, _, G_answer, m_answer, k_answer, b_answer⟩ := h_answer.ex
  obtain ⟨_, _, G_Session_init, M_Session, b_Session_init⟩ := h_Session_init.ex
  refine F.ok sc_answers len (fun cdv A outer s H vs Q E hr h => ⟨t_answers K C_Session a_GIVEN_COUNTS P_row_lengths P_most_apart P_clocks_for_all sp_counted sp_answer sp_Session_init, ?_, pure vs H Q E h⟩)
  exact pss_cons (ps_set (i := 1) sc_answers.nd rfl (Or.inl rfl) (pe_make0 M_Session G_Session_init (hr.mono (by decide)) (by rfl) T.c_Session b_Session_init .nil pass0))
      (pss_cons (ps_set (i := 2) sc_answers.nd rfl (Or.inl rfl) (pe_lst (pa_nil)))
      (pss_cons (ps_set (i := 3) sc_answers.nd rfl (Or.inl rfl) (pe_int))
      (pss_cons (ps_while PassesOwn.never (pt_cmpR op_lt (pv 3) (pe_callB call_len_seq (by rfl) T.n_len PySem.boot_len (pa_cons (pv 0) (pa_nil))) (nomark _)) (pss_cons (ps_set (i := 4) sc_answers.nd rfl (Or.inl rfl) (pe_ix ix_list (pv 0) (pv 3) (fun _ _ => rfl)))
      (pss_cons (ps_set (i := 5) sc_answers.nd rfl (Or.inl rfl) (pe_op op_add (pe_op op_add (pv 3) (pe_int)) (pe_ix ix_tup (pe_glob (by rfl) T.g_GIVEN_COUNTS rfl) (pv 4) (fun _ _ => rfl))))
      (pss_cons (ps_expr (pe_bm PySem.F.plainAttrs_list PySem.F.slot_list_extend PySem.F.type_list_extend mt_extend (pv 2) (pa_cons (pe_call G_counted (hr.mono (by decide)) (by rfl) m_counted k_counted b_counted .nil pass0 (pa_cons (pe_call G_answer (hr.mono (by decide)) (by rfl) m_answer k_answer b_answer .nil pass0 (pa_cons (pv 1) (pa_cons (pv 4) (pa_cons (pe_slice sl_list (pv 0) (po_some (pe_op op_add (pv 3) (pe_int))) (po_some (pv 5))) (pa_nil))))) (pa_nil))) (pa_nil))))
      (pss_one (ps_set (i := 3) sc_answers.nd rfl (Or.inl rfl) (pv 5)))))))
      (pss_one (ps_ret (pv 2))))))
end
end Lw

set_option Elab.async false
set_option linter.all false
set_option maxRecDepth 100000
set_option maxHeartbeats 4000000
namespace Lw
open PySem PySem.Spec PyProof.Rows L2 Evl
abbrev Evt := Kv413.Event

/-! ### words that the layer lacks: what a field, a method, abs, len evaluate to -/
section
variable {K : PySem.W.Frag} {σ : L2.St} {H H' : Hp} {ta tb te tv : TE} {t : TA} {x y z v : V} {D : Ends} {tz : TS}
theorem ev_fld {a C dx : Addr} {fs : List (Str × V)} {f : Str} (h : Ev ta σ H (.ref a)) (ho : H a = some (.ins C dx fs)) (hc : Cls K C) (hn : NoAttr K C f) (hl : fs.lookup f = some v) : Ev (tFld K ta f) σ H v := fun H1 e Q q =>
  h H1 e _ fun H2 e2 => ⟨a, C, dx, fs, v, rfl, e2 _ _ (e _ _ ho), hc, hn, hl, q H2 e2⟩
theorem ev_meth {a C dx : Addr} {fs : List (Str × V)} {m : Str} {sp : Sp} {E : XK} {vs : List V} (h : Ev ta σ H (.ref a)) (ho : H a = some (.ins C dx fs)) (hl : fs.lookup m = none) (ht : EvA t σ H vs) (hs : SpV sp (.ref a :: vs) H z) : Ev (tMeth C m sp [] E ta t) σ H z := fun H1 e Q q =>
  h H1 e _ fun H2 e2 => ⟨a, dx, fs, rfl, e2 _ _ (e _ _ ho), hl, ht H2 (e.trans e2) _ fun H3 e3 => by
    rw [List.append_nil]
    exact hs H3 ((e.trans e2).trans e3) Q (fun H4 e4 => q H4 ((e2.trans e3).trans e4)) E⟩
theorem el_meth {a C dx : Addr} {fs : List (Str × V)} {m : Str} {sp : Sp} {E : XK} {vs xs : List V} (h : Ev ta σ H (.ref a)) (ho : H a = some (.ins C dx fs)) (hl : fs.lookup m = none) (ht : EvA t σ H vs) (hs : SpL sp (.ref a :: vs) H xs) : EvL (tMeth C m sp [] E ta t) σ H xs := fun H1 e Q q =>
  h H1 e _ fun H2 e2 => ⟨a, dx, fs, rfl, e2 _ _ (e _ _ ho), hl, ht H2 (e.trans e2) _ fun H3 e3 => by
    rw [List.append_nil]
    exact hs H3 ((e.trans e2).trans e3) Q (fun p H4 hp e4 h4 => q p H4 (fresh_back (e2.trans e3) hp) ((e2.trans e3).trans e4) h4) E⟩
theorem ev_callN {sp : Sp} {vs : List V} {E : XK} {ta : TA} (h : EvA ta σ H vs) (hs : SpV sp vs H z) : Ev (tCall sp [] E ta) σ H z := ev_call h (by rw [List.append_nil]; exact hs)
theorem el_callN {sp : Sp} {vs xs : List V} {E : XK} {ta : TA} (h : EvA ta σ H vs) (hs : SpL sp vs H xs) : EvL (tCall sp [] E ta) σ H xs := el_call h (by rw [List.append_nil]; exact hs)
theorem ev_abs {i : Int} (h : Ev ta σ H (.int i)) : Ev (tCB rAbs (tCons ta tNil)) σ H (.int (if i < 0 then -i else i)) := fun H1 e Q q =>
  h H1 e _ fun H2 e2 => ⟨i, rfl, q H2 e2⟩
theorem ev_lenL {p : Addr} {xs : List V} (h : Ev ta σ H (.ref p)) (hp : H p = some (.lst xs)) : Ev (tCB (rLen K) (tCons ta tNil)) σ H (.int (xs.length : Int)) := fun H1 e Q q =>
  h H1 e _ fun H2 e2 => ⟨p, xs, rfl, .inl (sq_of (e2 _ _ (e _ _ hp))), q H2 e2⟩
theorem ev_lenS {p : Addr} {xs : List V} (h : Ev ta σ H (.ref p)) (hp : SqL K H p xs) : Ev (tCB (rLen K) (tCons ta tNil)) σ H (.int (xs.length : Int)) := fun H1 e Q q =>
  h H1 e _ fun H2 e2 => ⟨p, xs, rfl, .inl (ex_l (e.trans e2) hp), q H2 e2⟩
theorem rv_mul {i j : Int} (h : (-(2 ^ 64) < i ∧ i < 2 ^ 64) ∨ (-(2 ^ 64) < j ∧ j < 2 ^ 64)) : RV rMul (.int i) (.int j) H (.int (i * j)) := rv_I h
theorem ev_chain {r r' : R2} {a b : Bool} {w : V} {tc : TE} (ha : Ev ta σ H x) (hb : Ev tb σ H y) (hr : RV r x y H (.bl a)) (hc : a = true → Ev tc σ H w) (hr' : a = true → RV r' y w H (.bl b)) : Ev (tChain r r' ta tb tc) σ H (.bl (a && b)) := fun H1 e Q q =>
  ha H1 e _ fun H2 e2 => hb H2 (e.trans e2) _ fun H3 e3 => hr H3 ((e.trans e2).trans e3) _ fun H4 e4 => ⟨a, rfl, by
    cases a with
    | true =>
      exact hc rfl H4 (((e.trans e2).trans e3).trans e4) _ fun H5 e5 => hr' rfl H5 ((((e.trans e2).trans e3).trans e4).trans e5) Q fun H6 e6 => q H6 ((((e2.trans e3).trans e4).trans e5).trans e6)
    | false => exact q H4 ((e2.trans e3).trans e4)⟩
/-- lists joined: both tracked, or new -/
theorem el_cat {p q : Addr} {xs ys : List V} (ha : Ev ta σ H (.ref p)) (hb : Ev tb σ H (.ref q)) (hp : H p = some (.lst xs)) (hq : H q = some (.lst ys)) (hl : xs.length + ys.length ≤ 100000) : EvL (tOp rCat ta tb) σ H (xs ++ ys) := fun H1 e Q k =>
  ha H1 e _ fun H2 e2 => hb H2 (e.trans e2) _ fun H3 e3 => ⟨p, q, xs, ys, rfl, rfl, e3 _ _ (e2 _ _ (e _ _ hp)), e3 _ _ (e2 _ _ (e _ _ hq)), sz_of hl, fun l hl => k l _ (fresh_back (e2.trans e3) hl) ((e2.trans e3).trans (Ex.new hl)) upd_same⟩
theorem el_catN {q : Addr} {xs ys : List V} (ha : EvL ta σ H xs) (hb : Ev tb σ H (.ref q)) (hq : H q = some (.lst ys)) (hl : xs.length + ys.length ≤ 100000) : EvL (tOp rCat ta tb) σ H (xs ++ ys) := fun H1 e Q k =>
  ha H1 e _ fun p H2 _ e2 hp => hb H2 (e.trans e2) _ fun H3 e3 => ⟨p, q, xs, ys, rfl, rfl, e3 _ _ hp, e3 _ _ (e2 _ _ (e _ _ hq)), sz_of hl, fun l hl => k l _ (fresh_back (e2.trans e3) hl) ((e2.trans e3).trans (Ex.new hl)) upd_same⟩
theorem el_catV {p : Addr} {xs ys : List V} (ha : Ev ta σ H (.ref p)) (hb : EvL tb σ H ys) (hp : H p = some (.lst xs)) (hl : xs.length + ys.length ≤ 100000) : EvL (tOp rCat ta tb) σ H (xs ++ ys) := fun H1 e Q k =>
  ha H1 e _ fun H2 e2 => hb H2 (e.trans e2) _ fun q H3 _ e3 hq => ⟨p, q, xs, ys, rfl, rfl, e3 _ _ (e2 _ _ (e _ _ hp)), hq, sz_of hl, fun l hl => k l _ (fresh_back (e2.trans e3) hl) ((e2.trans e3).trans (Ex.new hl)) upd_same⟩
theorem el_catNN {xs ys : List V} (ha : EvL ta σ H xs) (hb : EvL tb σ H ys) (hl : xs.length + ys.length ≤ 100000) : EvL (tOp rCat ta tb) σ H (xs ++ ys) := fun H1 e Q k =>
  ha H1 e _ fun p H2 _ e2 hp => hb H2 (e.trans e2) _ fun q H3 _ e3 hq => ⟨p, q, xs, ys, rfl, rfl, e3 _ _ hp, hq, sz_of hl, fun l hl => k l _ (fresh_back (e2.trans e3) hl) ((e2.trans e3).trans (Ex.new hl)) upd_same⟩
theorem el_catB {q : Addr} {xs ys : List V} (ha : EvL ta σ H xs) (hb : Ev tb σ H (.ref q)) (hq : H q = some (.lst ys)) (hl : xs.length + ys.length ≤ sizeLine) : EvL (tOp rCat ta tb) σ H (xs ++ ys) := fun H1 e Q k =>
  ha H1 e _ fun p H2 _ e2 hp => hb H2 (e.trans e2) _ fun H3 e3 => ⟨p, q, xs, ys, rfl, rfl, e3 _ _ hp, e3 _ _ (e2 _ _ (e _ _ hq)), hl, fun l hl => k l _ (fresh_back (e2.trans e3) hl) ((e2.trans e3).trans (Ex.new hl)) upd_same⟩
theorem el_is {xs ys : List V} (h : EvL te σ H xs) (e : xs = ys) : EvL te σ H ys := by
  rw [← e]
  exact h
theorem et_ne {i j : Int} (ha : Ev ta σ H (.int i)) (hb : Ev tb σ H (.int j)) : EvT (tTest (tOp rNe ta tb)) σ H (!decide (i = j)) := by
  have h := et_test (ev_op ha hb (rv_ne rfl))
  have e : decide (V.int i = V.int j) = decide (i = j) := by
    by_cases c : i = j
    · rw [decide_eq_true c, decide_eq_true (congrArg V.int c)]
    · rw [decide_eq_false c, decide_eq_false (fun z => c (V.int.inj z))]
  rw [e] at h
  exact h
theorem ev_eqI {i j : Int} (ha : Ev ta σ H (.int i)) (hb : Ev tb σ H (.int j)) : Ev (tOp rEq ta tb) σ H (.bl (decide (i = j))) := by
  have h := ev_op ha hb (rv_eq (H := H) (x := V.int i) (y := V.int j) rfl)
  have e : decide (V.int i = V.int j) = decide (i = j) := by
    by_cases c : i = j
    · rw [decide_eq_true c, decide_eq_true (congrArg V.int c)]
    · rw [decide_eq_false c, decide_eq_false (fun z => c (V.int.inj z))]
  rw [e] at h
  exact h
/-- a field is stored: of a value, of a new list -/
theorem q_fld {a C dx : Addr} {fs : List (Str × V)} {f : Str} (hv : Ev tv σ H v) (ha : ∀ H1, Ex H H1 → Ev ta σ H1 (.ref a)) (ho : H a = some (.ins C dx fs)) (hc : Cls K C) (hn : NoAttr K C f) (hl : fs.length < 1000) (k : ∀ H1, Ex H H1 → tz D σ (upd H1 a (.ins C dx (putF f v fs)))) : tSeq (sFld K ta tv f) tz D σ H :=
  hv H (Ex.refl H) _ fun H1 e1 => ha H1 e1 H1 (Ex.refl H1) _ fun H2 e2 => ⟨a, C, dx, fs, rfl, e2 _ _ (e1 _ _ ho), hc, hn, hl, k H2 (e1.trans e2)⟩
theorem q_fldL {a C dx : Addr} {fs : List (Str × V)} {f : Str} {xs : List V} (hv : EvL tv σ H xs) (ha : ∀ H1, Ex H H1 → Ev ta σ H1 (.ref a)) (ho : H a = some (.ins C dx fs)) (hc : Cls K C) (hn : NoAttr K C f) (hl : fs.length < 1000) (k : ∀ p H1, H p = none → Ex H H1 → H1 p = some (.lst xs) → tz D σ (upd H1 a (.ins C dx (putF f (.ref p) fs)))) : tSeq (sFld K ta tv f) tz D σ H :=
  hv H (Ex.refl H) _ fun p H1 hp e1 h1 => ha H1 e1 H1 (Ex.refl H1) _ fun H2 e2 => ⟨a, C, dx, fs, rfl, e2 _ _ (e1 _ _ ho), hc, hn, hl, k p H2 hp (e1.trans e2) (e2 _ _ h1)⟩
theorem s_fld {a C dx : Addr} {fs : List (Str × V)} {f : Str} (hv : Ev tv σ H v) (ha : ∀ H1, Ex H H1 → Ev ta σ H1 (.ref a)) (ho : H a = some (.ins C dx fs)) (hc : Cls K C) (hn : NoAttr K C f) (hl : fs.length < 1000) (k : ∀ H1, Ex H H1 → D.nx σ (upd H1 a (.ins C dx (putF f v fs)))) : sFld K ta tv f D σ H :=
  hv H (Ex.refl H) _ fun H1 e1 => ha H1 e1 H1 (Ex.refl H1) _ fun H2 e2 => ⟨a, C, dx, fs, rfl, e2 _ _ (e1 _ _ ho), hc, hn, hl, k H2 (e1.trans e2)⟩
theorem s_fldL {a C dx : Addr} {fs : List (Str × V)} {f : Str} {xs : List V} (hv : EvL tv σ H xs) (ha : ∀ H1, Ex H H1 → Ev ta σ H1 (.ref a)) (ho : H a = some (.ins C dx fs)) (hc : Cls K C) (hn : NoAttr K C f) (hl : fs.length < 1000) (k : ∀ p H1, H p = none → Ex H H1 → H1 p = some (.lst xs) → D.nx σ (upd H1 a (.ins C dx (putF f (.ref p) fs)))) : sFld K ta tv f D σ H :=
  hv H (Ex.refl H) _ fun p H1 hp e1 h1 => ha H1 e1 H1 (Ex.refl H1) _ fun H2 e2 => ⟨a, C, dx, fs, rfl, e2 _ _ (e1 _ _ ho), hc, hn, hl, k p H2 hp (e1.trans e2) (e2 _ _ h1)⟩
end

/-! ### fields by name -/
theorem lk_here {k : Str} {v : V} {r : List (Str × V)} : List.lookup k ((k, v) :: r) = some v := by
  have e : (k == k) = true := beq_self_eq_true k
  simp only [List.lookup, e]
theorem lk_past {k g : Str} {v : V} {r : List (Str × V)} (h : (k == g) = false) : List.lookup k ((g, v) :: r) = List.lookup k r := by
  simp only [List.lookup, h]
theorem put_here {f : Str} {v x : V} {r : List (Str × V)} : putF f v ((f, x) :: r) = (f, v) :: r := if_pos rfl
theorem put_past {f g : Str} {v x : V} {r : List (Str × V)} (h : ¬ g = f) : putF f v ((g, x) :: r) = (g, x) :: putF f v r := if_neg h

/-! ### events in the heap -/
def EvAt (H : Hp) (v : V) (e : Evt) : Prop := ∃ q, v = .ref q ∧ H q = some (.tup [.int e.t, .int e.x])
theorem EvAt.ex {H H' : Hp} {v : V} {e : Evt} (x : Ex H H') (h : EvAt H v e) : EvAt H' v e := let ⟨q, a, b⟩ := h; ⟨q, a, x _ _ b⟩
abbrev EvsAt (H : Hp) : List V → List Evt → Prop := Paired (EvAt H)
theorem Paired.to {α β : Type} {F G : α → β → Prop} (h : ∀ a b, F a b → G a b) : ∀ {l : List α} {m : List β}, Paired F l m → Paired G l m
  | _, _, .nil => .nil
  | _, _, .cons a b => .cons (h _ _ a) (Paired.to h b)
theorem EvsAt.ex {H H' : Hp} {vs : List V} {es : List Evt} (x : Ex H H') (h : EvsAt H vs es) : EvsAt H' vs es := Paired.to (fun _ _ => EvAt.ex x) h
theorem Paired.len {α β : Type} {F : α → β → Prop} : ∀ {l : List α} {m : List β}, Paired F l m → l.length = m.length
  | _, _, .nil => rfl
  | _, _, .cons _ b => congrArg (· + 1) (Paired.len b)
theorem Paired.at {α β : Type} {F : α → β → Prop} : ∀ {l : List α} {m : List β} {i : Nat} {y : β}, Paired F l m → m[i]? = some y → ∃ x, l[i]? = some x ∧ F x y
  | _, _, i, y, .nil, h => by simp at h
  | _, _, 0, y, .cons a b, h => ⟨_, rfl, by
    have e : _ = y := Option.some.inj h
    rw [← e]
    exact a⟩
  | _, _, i + 1, y, .cons a b, h => Paired.at (i := i) b h
theorem Paired.app {α β : Type} {F : α → β → Prop} : ∀ {l l' : List α} {m m' : List β}, Paired F l m → Paired F l' m' → Paired F (l ++ l') (m ++ m')
  | _, _, _, _, .nil, h => h
  | _, _, _, _, .cons a b, h => .cons a (Paired.app b h)
theorem Paired.tk {α β : Type} {F : α → β → Prop} : ∀ {l : List α} {m : List β} (n : Nat), Paired F l m → Paired F (l.take n) (m.take n)
  | _, _, 0, _ => by
    rw [List.take_zero, List.take_zero]
    exact .nil
  | _, _, n + 1, .nil => .nil
  | _, _, n + 1, .cons a b => .cons a (Paired.tk n b)
theorem Paired.dr {α β : Type} {F : α → β → Prop} : ∀ {l : List α} {m : List β} (n : Nat), Paired F l m → Paired F (l.drop n) (m.drop n)
  | _, _, 0, h => h
  | _, _, n + 1, .nil => .nil
  | _, _, n + 1, .cons a b => Paired.dr n b
end Lw

set_option Elab.async false
set_option linter.all false
set_option maxRecDepth 100000
set_option maxHeartbeats 4000000
namespace Lw
open PySem PySem.Spec PyProof.Rows L2 Evl

/-! ### light: the numbers -/
theorem heard_num (e f : Evt) : decide ((if f.x - e.x < 0 then -(f.x - e.x) else f.x - e.x) ≤ f.t - e.t) = Kv413.heard e f := by
  have h : ((if f.x - e.x < 0 then -(f.x - e.x) else f.x - e.x) ≤ f.t - e.t) ↔ Kv413.heard e f = true := by
    rw [La.heard_iff]
    unfold Kv413.Event.u Kv413.Event.v
    split <;> omega
  by_cases c : Kv413.heard e f = true
  · rw [c, decide_eq_true (h.mpr c)]
  · rw [decide_eq_false (fun z => c (h.mp z))]
    cases hh : Kv413.heard e f with
    | true => exact absurd hh c
    | false => rfl
theorem square_num (e f : Evt) : (f.t - e.t) * (f.t - e.t) - (f.x - e.x) * (f.x - e.x) = Kv413.square e f := by
  unfold Kv413.square Kv413.Event.u Kv413.Event.v
  have h : ∀ a b : Int, a * a - b * b = (a - b) * (a + b) := by
    intro a b
    rw [Int.sub_mul, Int.mul_add, Int.mul_add, Int.mul_comm b a]
    omega
  rw [h]
  congr 1 <;> omega

/-- times and places lie within some bound -/
def Small (e : Evt) : Prop := -99 ≤ e.t ∧ e.t ≤ 99 ∧ -99 ≤ e.x ∧ e.x ≤ 99

def sp_is_heard (K : PySem.W.Frag) (C_Session a_GIVEN_COUNTS P1 P2 P3 : Addr) : Sp := fun vs H Q _ => ∃ v w e f, vs = [v, w] ∧ EvAt H v e ∧ EvAt H w f ∧ RetV (.bl (Kv413.heard e f)) H Q
def sp_square_of (K : PySem.W.Frag) (C_Session a_GIVEN_COUNTS P1 P2 P3 : Addr) : Sp := fun vs H Q _ => ∃ v w e f, vs = [v, w] ∧ EvAt H v e ∧ EvAt H w f ∧ Small e ∧ Small f ∧ RetV (.int (Kv413.square e f)) H Q
def sp_kind_of (K : PySem.W.Frag) (C_Session a_GIVEN_COUNTS P1 P2 P3 : Addr) : Sp := fun vs H Q _ => ∃ v w e f, vs = [v, w] ∧ EvAt H v e ∧ EvAt H w f ∧ Small e ∧ Small f ∧ RetV (.int (Kv413.kind e f : Nat)) H Q
def sp_in_range (K : PySem.W.Frag) (C_Session a_GIVEN_COUNTS P1 P2 P3 : Addr) : Sp := fun vs H Q _ => ∃ t : Int, vs = [.int t] ∧ RetV (.bl (Kv413.ok t)) H Q
def sp_counted (K : PySem.W.Frag) (C_Session a_GIVEN_COUNTS P1 P2 P3 : Addr) : Sp := fun vs H Q _ => ∃ (p : Addr) (ns : List Int), vs = [.ref p] ∧ H p = some (.lst (ns.map V.int)) ∧ ns.length ≤ 10000000 ∧ RetL (((ns.length : Int) :: ns).map V.int) H Q
section
variable {K : PySem.W.Frag} {mg : Str → Option Value} {C_Session a_GIVEN_COUNTS P1 P2 P3 : Addr}
theorem len_is_heard : ∀ vs H Q E, sp_is_heard K C_Session a_GIVEN_COUNTS P1 P2 P3 vs H Q E → vs.length = 2 := by
  rintro vs H Q E ⟨_, _, _, _, rfl, _⟩
  rfl
theorem pure_is_heard (T : Txt K mg C_Session a_GIVEN_COUNTS P1 P2 P3) : ∀ vs H Q E, sp_is_heard K C_Session a_GIVEN_COUNTS P1 P2 P3 vs H Q E → t_is_heard K C_Session a_GIVEN_COUNTS P1 P2 P3 { nx := fun _ H' => Q .non H', rt := Q } (start N_is_heard vs) H := by
  rintro vs H Q E ⟨_, _, e, f, rfl, ⟨p, rfl, hp⟩, ⟨q, rfl, hq⟩, k⟩
  refine q_asg (ev_op (ev_op (ev_var rfl) ev_c (rv_ixT (st_of hq) rfl)) (ev_op (ev_var rfl) ev_c (rv_ixT (st_of hp) rfl)) rv_I0) fun H1 e1 => ?_
  refine s_ret (ev_is (ev_op (ev_var rfl) (ev_abs (ev_op (ev_op (ev_var rfl) ev_c (rv_ixT (st_of (e1 _ _ hq)) rfl)) (ev_op (ev_var rfl) ev_c (rv_ixT (st_of (e1 _ _ hp)) rfl)) rv_I0)) rv_I0) (congrArg V.bl (heard_num e f))) fun H2 e2 => ?_
  exact k.go (e1.trans e2)
theorem len_square_of : ∀ vs H Q E, sp_square_of K C_Session a_GIVEN_COUNTS P1 P2 P3 vs H Q E → vs.length = 2 := by
  rintro vs H Q E ⟨_, _, _, _, rfl, _⟩
  rfl
theorem pure_square_of (T : Txt K mg C_Session a_GIVEN_COUNTS P1 P2 P3) : ∀ vs H Q E, sp_square_of K C_Session a_GIVEN_COUNTS P1 P2 P3 vs H Q E → t_square_of K C_Session a_GIVEN_COUNTS P1 P2 P3 { nx := fun _ H' => Q .non H', rt := Q } (start N_square_of vs) H := by
  rintro vs H Q E ⟨_, _, e, f, rfl, ⟨p, rfl, hp⟩, ⟨q, rfl, hq⟩, he, hf, k⟩
  unfold Small at he hf
  refine q_asg (ev_op (ev_op (ev_var rfl) ev_c (rv_ixT (st_of hq) rfl)) (ev_op (ev_var rfl) ev_c (rv_ixT (st_of hp) rfl)) rv_I0) fun H1 e1 => ?_
  refine q_asg (ev_op (ev_op (ev_var rfl) ev_c (rv_ixT (st_of (e1 _ _ hq)) rfl)) (ev_op (ev_var rfl) ev_c (rv_ixT (st_of (e1 _ _ hp)) rfl)) rv_I0) fun H2 e2 => ?_
  refine s_ret (ev_is (ev_op (ev_op (ev_var rfl) (ev_var rfl) (rv_mul (.inl ⟨by omega, by omega⟩))) (ev_op (ev_var rfl) (ev_var rfl) (rv_mul (.inl ⟨by omega, by omega⟩))) rv_I0) (congrArg V.int (square_num e f))) fun H3 e3 => ?_
  exact k.go ((e1.trans e2).trans e3)
theorem spv_is_heard {H : Hp} {v w : V} {e f : Evt} (h1 : EvAt H v e) (h2 : EvAt H w f) : SpV (sp_is_heard K C_Session a_GIVEN_COUNTS P1 P2 P3) [v, w] H (.bl (Kv413.heard e f)) := fun H1 x Q q E => ⟨v, w, e, f, rfl, h1.ex x, h2.ex x, q⟩
theorem spv_square_of {H : Hp} {v w : V} {e f : Evt} (h1 : EvAt H v e) (h2 : EvAt H w f) (h3 : Small e) (h4 : Small f) : SpV (sp_square_of K C_Session a_GIVEN_COUNTS P1 P2 P3) [v, w] H (.int (Kv413.square e f)) := fun H1 x Q q E => ⟨v, w, e, f, rfl, h1.ex x, h2.ex x, h3, h4, q⟩
theorem spv_kind_of {H : Hp} {v w : V} {e f : Evt} (h1 : EvAt H v e) (h2 : EvAt H w f) (h3 : Small e) (h4 : Small f) : SpV (sp_kind_of K C_Session a_GIVEN_COUNTS P1 P2 P3) [v, w] H (.int (Kv413.kind e f : Nat)) := fun H1 x Q q E => ⟨v, w, e, f, rfl, h1.ex x, h2.ex x, h3, h4, q⟩
theorem spv_in_range {H : Hp} {t : Int} : SpV (sp_in_range K C_Session a_GIVEN_COUNTS P1 P2 P3) [.int t] H (.bl (Kv413.ok t)) := fun H1 _ Q q E => ⟨t, rfl, q⟩
theorem spl_counted {H : Hp} {p : Addr} {ns : List Int} (h : H p = some (.lst (ns.map V.int))) (hl : ns.length ≤ 10000000) : SpL (sp_counted K C_Session a_GIVEN_COUNTS P1 P2 P3) [.ref p] H (((ns.length : Int) :: ns).map V.int) := fun H1 x Q q E => ⟨p, ns, rfl, x _ _ h, hl, q⟩
theorem len_in_range : ∀ vs H Q E, sp_in_range K C_Session a_GIVEN_COUNTS P1 P2 P3 vs H Q E → vs.length = 1 := by
  rintro vs H Q E ⟨_, rfl, _⟩
  rfl
theorem ok_num (t : Int) : decide ((if t < 0 then -t else t) ≤ 99) = Kv413.ok t := by
  unfold Kv413.ok
  by_cases h : -99 ≤ t
  · by_cases h2 : t ≤ 99
    · rw [decide_eq_true h, decide_eq_true h2, decide_eq_true (by split <;> omega)]
      rfl
    · rw [decide_eq_false h2, decide_eq_false (by split <;> omega), Bool.and_false]
  · rw [decide_eq_false h, decide_eq_false (by split <;> omega), Bool.false_and]
theorem pure_in_range (T : Txt K mg C_Session a_GIVEN_COUNTS P1 P2 P3) : ∀ vs H Q E, sp_in_range K C_Session a_GIVEN_COUNTS P1 P2 P3 vs H Q E → t_in_range K C_Session a_GIVEN_COUNTS P1 P2 P3 { nx := fun _ H' => Q .non H', rt := Q } (start N_in_range vs) H := by
  rintro vs H Q E ⟨t, rfl, k⟩
  refine s_ret (ev_is (ev_op (ev_abs (ev_var rfl)) ev_c rv_I0) ?_) fun H1 e1 => k.go e1
  rw [ok_num]
theorem len_counted : ∀ vs H Q E, sp_counted K C_Session a_GIVEN_COUNTS P1 P2 P3 vs H Q E → vs.length = 1 := by
  rintro vs H Q E ⟨_, _, rfl, _⟩
  rfl
theorem pure_counted (T : Txt K mg C_Session a_GIVEN_COUNTS P1 P2 P3) : ∀ vs H Q E, sp_counted K C_Session a_GIVEN_COUNTS P1 P2 P3 vs H Q E → t_counted K C_Session a_GIVEN_COUNTS P1 P2 P3 { nx := fun _ H' => Q .non H', rt := Q } (start N_counted vs) H := by
  rintro vs H Q E ⟨p, ns, rfl, hp, hl, k⟩
  refine s_retL (el_is (el_catB (el_lst (ea_cons (ev_lenL (ev_var rfl) hp) ea_nil) (by show 1 ≤ 100000; decide)) (ev_var rfl) hp ?_) ?_) fun q H1 hq e1 h1 => k.go (Ex.refl H) hq e1 h1
  · simp only [List.length_map, List.length_cons, List.length_nil]
    have : (10000001 : Nat) ≤ sizeLine := by decide
    omega
  · simp only [List.length_map, List.map_cons, List.cons_append, List.nil_append]
theorem len_kind_of : ∀ vs H Q E, sp_kind_of K C_Session a_GIVEN_COUNTS P1 P2 P3 vs H Q E → vs.length = 2 := by
  rintro vs H Q E ⟨_, _, _, _, rfl, _⟩
  rfl
theorem shaped_ev (a b : Int) : SeqAt.shaped (.tuple [.int a, .int b]) = true := rfl
theorem rv_eqE {H : Hp} {v w : V} {e f : Evt} (h1 : EvAt H v e) (h2 : EvAt H w f) : RV (rEqD K) v w H (.bl (decide (e = f))) := by
  obtain ⟨p, rfl, hp⟩ := h1
  obtain ⟨q, rfl, hq⟩ := h2
  intro H1 x Q k
  refine ⟨_, _, .tup (st_of (x _ _ hp)) (.cons (.int _) (.cons (.int _) .nil)), .tup (st_of (x _ _ hq)) (.cons (.int _) (.cons (.int _) .nil)), shaped_ev _ _, shaped_ev _ _, ?_⟩
  have e1 : PyData.eqv (.tuple [.int e.t, .int e.x]) (.tuple [.int f.t, .int f.x]) = decide (e = f) := by
    show (e.t == f.t && (e.x == f.x && true)) = decide (e = f)
    cases e with | mk a b =>
    cases f with | mk c d =>
    simp only [Kv413.Event.mk.injEq, Bool.and_true]
    by_cases h1 : a = c
    · by_cases h2 : b = d
      · simp [h1, h2]
      · simp [h1, h2]
    · simp [h1]
  rw [e1]
  exact k H1 (Ex.refl H1)
theorem pure_kind_of (T : Txt K mg C_Session a_GIVEN_COUNTS P1 P2 P3) : ∀ vs H Q E, sp_kind_of K C_Session a_GIVEN_COUNTS P1 P2 P3 vs H Q E → t_kind_of K C_Session a_GIVEN_COUNTS P1 P2 P3 (sp_square_of K C_Session a_GIVEN_COUNTS P1 P2 P3) (sp_is_heard K C_Session a_GIVEN_COUNTS P1 P2 P3) { nx := fun _ H' => Q .non H', rt := Q } (start N_kind_of vs) H := by
  rintro vs H Q E ⟨v, w, e, f, rfl, hv, hw, he, hf, k⟩
  unfold Kv413.kind at k
  refine q_when (et_test (ev_op (ev_var rfl) (ev_var rfl) (rv_eqE hv hw))) (fun hb H1 e1 => ?_) (fun hb H1 e1 => ?_)
  · rw [if_pos (of_decide_eq_true hb)] at k
    exact s_ret ev_c fun H2 e2 => k.go (e1.trans e2)
  rw [if_neg (of_decide_eq_false hb)] at k
  refine q_asg (ev_eqI (ev_callN (ea_cons (ev_var rfl) (ea_cons (ev_var rfl) ea_nil)) (spv_square_of (hv.ex e1) (hw.ex e1) he hf)) ev_c) fun H2 e2 => ?_
  have x2 := e1.trans e2
  have hv2 := hv.ex x2
  have hw2 := hw.ex x2
  refine q_when (et_B (ev_callN (ea_cons (ev_var rfl) (ea_cons (ev_var rfl) ea_nil)) (spv_is_heard hv2 hw2))) (fun hb H3 e3 => ?_) (fun hb H3 e3 => ?_)
  · rw [if_pos hb] at k
    by_cases hs : Kv413.square e f = 0
    · rw [if_pos hs] at k
      exact s_ret (ev_if (v := .int 1) (et_B (ev_var rfl)) (fun _ => ev_c) (fun z => absurd hs (of_decide_eq_false z))) fun H4 e4 => k.go ((x2.trans e3).trans e4)
    · rw [if_neg hs] at k
      exact s_ret (ev_if (v := .int 2) (et_B (ev_var rfl)) (fun z => absurd (of_decide_eq_true z) hs) (fun _ => ev_c)) fun H4 e4 => k.go ((x2.trans e3).trans e4)
  rw [if_neg (by rw [hb]; decide)] at k
  have x3 := x2.trans e3
  refine q_when (et_B (ev_callN (ea_cons (ev_var rfl) (ea_cons (ev_var rfl) ea_nil)) (spv_is_heard (hw.ex x3) (hv.ex x3)))) (fun hb H4 e4 => ?_) (fun hb H4 e4 => ?_)
  · rw [if_pos hb] at k
    by_cases hs : Kv413.square e f = 0
    · rw [if_pos hs] at k
      exact s_ret (ev_if (v := .int 4) (et_B (ev_var rfl)) (fun _ => ev_c) (fun z => absurd hs (of_decide_eq_false z))) fun H5 e5 => k.go ((x3.trans e4).trans e5)
    · rw [if_neg hs] at k
      exact s_ret (ev_if (v := .int 5) (et_B (ev_var rfl)) (fun z => absurd (of_decide_eq_true z) hs) (fun _ => ev_c)) fun H5 e5 => k.go ((x3.trans e4).trans e5)
  rw [if_neg (by rw [hb]; decide)] at k
  exact s_ret ev_c fun H5 e5 => k.go ((x3.trans e4).trans e5)

/-! ### by light from the left, from the right; halves -/
theorem ev_max2 {σ : L2.St} {H : Hp} {ta tb : TE} {i j : Int} (ha : Ev ta σ H (.int i)) (hb : Ev tb σ H (.int j)) : Ev (tCB rMax2 (tCons ta (tCons tb tNil))) σ H (.int (max i j)) := fun H1 e Q q =>
  ha H1 e _ fun H2 e2 => hb H2 (e.trans e2) _ fun H3 e3 => ⟨i, j, rfl, by
    have em : (if j > i then j else i) = max i j := by
      split <;> omega
    rw [em]
    exact q H3 (e2.trans e3)⟩
theorem ev_min2 {σ : L2.St} {H : Hp} {ta tb : TE} {i j : Int} (ha : Ev ta σ H (.int i)) (hb : Ev tb σ H (.int j)) : Ev (tCB rMin2 (tCons ta (tCons tb tNil))) σ H (.int (min i j)) := fun H1 e Q q =>
  ha H1 e _ fun H2 e2 => hb H2 (e.trans e2) _ fun H3 e3 => ⟨i, j, rfl, by
    have em : (if j < i then j else i) = min i j := by
      split <;> omega
    rw [em]
    exact q H3 (e2.trans e3)⟩
def belowB (e f : Evt) : Bool := decide ((if f.t - e.t < 0 then -(f.t - e.t) else f.t - e.t) < f.x - e.x)
def sp_is_apart_below (K : PySem.W.Frag) (C_Session a_GIVEN_COUNTS P1 P2 P3 : Addr) : Sp := fun vs H Q _ => ∃ v w e f, vs = [v, w] ∧ EvAt H v e ∧ EvAt H w f ∧ RetV (.bl (belowB e f)) H Q
def sp_time_less_place (K : PySem.W.Frag) (C_Session a_GIVEN_COUNTS P1 P2 P3 : Addr) : Sp := fun vs H Q _ => ∃ v e, vs = [v] ∧ EvAt H v e ∧ RetV (.int e.u) H Q
def sp_time_and_place (K : PySem.W.Frag) (C_Session a_GIVEN_COUNTS P1 P2 P3 : Addr) : Sp := fun vs H Q _ => ∃ v e, vs = [v] ∧ EvAt H v e ∧ RetV (.int e.v) H Q
def sp_halves (K : PySem.W.Frag) (C_Session a_GIVEN_COUNTS P1 P2 P3 : Addr) : Sp := fun vs H Q _ => ∃ z : Int, vs = [.int z] ∧ -100000 ≤ z ∧ z ≤ 100000 ∧ RetL ((Kv413.half z).map V.int) H Q
def sp_crossing (K : PySem.W.Frag) (C_Session a_GIVEN_COUNTS P1 P2 P3 : Addr) : Sp := fun vs H Q _ => ∃ u v : Int, vs = [.int u, .int v] ∧ -1000 ≤ u ∧ u ≤ 1000 ∧ -1000 ≤ v ∧ v ≤ 1000 ∧ RetL ((Kv413.half (u + v) ++ Kv413.half (v - u)).map V.int) H Q
def firstL (e f : Evt) : List Int := Kv413.half (max e.u f.u + max e.v f.v) ++ Kv413.half (max e.v f.v - max e.u f.u)
def lastL (e f : Evt) : List Int := Kv413.half (min e.u f.u + min e.v f.v) ++ Kv413.half (min e.v f.v - min e.u f.u)
def sp_first_of (K : PySem.W.Frag) (C_Session a_GIVEN_COUNTS P1 P2 P3 : Addr) : Sp := fun vs H Q _ => ∃ v w e f, vs = [v, w] ∧ EvAt H v e ∧ EvAt H w f ∧ Small e ∧ Small f ∧ RetL ((firstL e f).map V.int) H Q
def sp_last_of (K : PySem.W.Frag) (C_Session a_GIVEN_COUNTS P1 P2 P3 : Addr) : Sp := fun vs H Q _ => ∃ v w e f, vs = [v, w] ∧ EvAt H v e ∧ EvAt H w f ∧ Small e ∧ Small f ∧ RetL ((lastL e f).map V.int) H Q
theorem len_is_apart_below : ∀ vs H Q E, sp_is_apart_below K C_Session a_GIVEN_COUNTS P1 P2 P3 vs H Q E → vs.length = 2 := by
  rintro vs H Q E ⟨_, _, _, _, rfl, _⟩
  rfl
theorem len_time_less_place : ∀ vs H Q E, sp_time_less_place K C_Session a_GIVEN_COUNTS P1 P2 P3 vs H Q E → vs.length = 1 := by
  rintro vs H Q E ⟨_, _, rfl, _⟩
  rfl
theorem len_time_and_place : ∀ vs H Q E, sp_time_and_place K C_Session a_GIVEN_COUNTS P1 P2 P3 vs H Q E → vs.length = 1 := by
  rintro vs H Q E ⟨_, _, rfl, _⟩
  rfl
theorem len_halves : ∀ vs H Q E, sp_halves K C_Session a_GIVEN_COUNTS P1 P2 P3 vs H Q E → vs.length = 1 := by
  rintro vs H Q E ⟨_, rfl, _⟩
  rfl
theorem len_crossing : ∀ vs H Q E, sp_crossing K C_Session a_GIVEN_COUNTS P1 P2 P3 vs H Q E → vs.length = 2 := by
  rintro vs H Q E ⟨_, _, rfl, _⟩
  rfl
theorem len_first_of : ∀ vs H Q E, sp_first_of K C_Session a_GIVEN_COUNTS P1 P2 P3 vs H Q E → vs.length = 2 := by
  rintro vs H Q E ⟨_, _, _, _, rfl, _⟩
  rfl
theorem len_last_of : ∀ vs H Q E, sp_last_of K C_Session a_GIVEN_COUNTS P1 P2 P3 vs H Q E → vs.length = 2 := by
  rintro vs H Q E ⟨_, _, _, _, rfl, _⟩
  rfl
theorem spv_below {H : Hp} {v w : V} {e f : Evt} (h1 : EvAt H v e) (h2 : EvAt H w f) : SpV (sp_is_apart_below K C_Session a_GIVEN_COUNTS P1 P2 P3) [v, w] H (.bl (belowB e f)) := fun H1 x Q q E => ⟨v, w, e, f, rfl, h1.ex x, h2.ex x, q⟩
theorem spv_less {H : Hp} {v : V} {e : Evt} (h1 : EvAt H v e) : SpV (sp_time_less_place K C_Session a_GIVEN_COUNTS P1 P2 P3) [v] H (.int e.u) := fun H1 x Q q E => ⟨v, e, rfl, h1.ex x, q⟩
theorem spv_both {H : Hp} {v : V} {e : Evt} (h1 : EvAt H v e) : SpV (sp_time_and_place K C_Session a_GIVEN_COUNTS P1 P2 P3) [v] H (.int e.v) := fun H1 x Q q E => ⟨v, e, rfl, h1.ex x, q⟩
theorem spl_halves {H : Hp} {z : Int} (h1 : -100000 ≤ z) (h2 : z ≤ 100000) : SpL (sp_halves K C_Session a_GIVEN_COUNTS P1 P2 P3) [.int z] H ((Kv413.half z).map V.int) := fun H1 x Q q E => ⟨z, rfl, h1, h2, q⟩
theorem spl_crossing {H : Hp} {u v : Int} (h1 : -1000 ≤ u) (h2 : u ≤ 1000) (h3 : -1000 ≤ v) (h4 : v ≤ 1000) : SpL (sp_crossing K C_Session a_GIVEN_COUNTS P1 P2 P3) [.int u, .int v] H ((Kv413.half (u + v) ++ Kv413.half (v - u)).map V.int) := fun H1 x Q q E => ⟨u, v, rfl, h1, h2, h3, h4, q⟩
theorem spl_first {H : Hp} {v w : V} {e f : Evt} (h1 : EvAt H v e) (h2 : EvAt H w f) (h3 : Small e) (h4 : Small f) : SpL (sp_first_of K C_Session a_GIVEN_COUNTS P1 P2 P3) [v, w] H ((firstL e f).map V.int) := fun H1 x Q q E => ⟨v, w, e, f, rfl, h1.ex x, h2.ex x, h3, h4, q⟩
theorem spl_last {H : Hp} {v w : V} {e f : Evt} (h1 : EvAt H v e) (h2 : EvAt H w f) (h3 : Small e) (h4 : Small f) : SpL (sp_last_of K C_Session a_GIVEN_COUNTS P1 P2 P3) [v, w] H ((lastL e f).map V.int) := fun H1 x Q q E => ⟨v, w, e, f, rfl, h1.ex x, h2.ex x, h3, h4, q⟩
theorem pure_is_apart_below (T : Txt K mg C_Session a_GIVEN_COUNTS P1 P2 P3) : ∀ vs H Q E, sp_is_apart_below K C_Session a_GIVEN_COUNTS P1 P2 P3 vs H Q E → t_is_apart_below K C_Session a_GIVEN_COUNTS P1 P2 P3 { nx := fun _ H' => Q .non H', rt := Q } (start N_is_apart_below vs) H := by
  rintro vs H Q E ⟨_, _, e, f, rfl, ⟨p, rfl, hp⟩, ⟨q, rfl, hq⟩, k⟩
  exact s_ret (ev_op (ev_op (ev_op (ev_var rfl) ev_c (rv_ixT (st_of hq) rfl)) (ev_op (ev_var rfl) ev_c (rv_ixT (st_of hp) rfl)) rv_I0) (ev_abs (ev_op (ev_op (ev_var rfl) ev_c (rv_ixT (st_of hq) rfl)) (ev_op (ev_var rfl) ev_c (rv_ixT (st_of hp) rfl)) rv_I0)) rv_I0) fun H2 e2 => k.go e2
theorem pure_time_less_place (T : Txt K mg C_Session a_GIVEN_COUNTS P1 P2 P3) : ∀ vs H Q E, sp_time_less_place K C_Session a_GIVEN_COUNTS P1 P2 P3 vs H Q E → t_time_less_place K C_Session a_GIVEN_COUNTS P1 P2 P3 { nx := fun _ H' => Q .non H', rt := Q } (start N_time_less_place vs) H := by
  rintro vs H Q E ⟨_, e, rfl, ⟨p, rfl, hp⟩, k⟩
  exact s_ret (ev_op (ev_op (ev_var rfl) ev_c (rv_ixT (st_of hp) rfl)) (ev_op (ev_var rfl) ev_c (rv_ixT (st_of hp) rfl)) rv_I0) fun H2 e2 => k.go e2
theorem pure_time_and_place (T : Txt K mg C_Session a_GIVEN_COUNTS P1 P2 P3) : ∀ vs H Q E, sp_time_and_place K C_Session a_GIVEN_COUNTS P1 P2 P3 vs H Q E → t_time_and_place K C_Session a_GIVEN_COUNTS P1 P2 P3 { nx := fun _ H' => Q .non H', rt := Q } (start N_time_and_place vs) H := by
  rintro vs H Q E ⟨_, e, rfl, ⟨p, rfl, hp⟩, k⟩
  exact s_ret (ev_op (ev_op (ev_var rfl) ev_c (rv_ixT (st_of hp) rfl)) (ev_op (ev_var rfl) ev_c (rv_ixT (st_of hp) rfl)) rv_I0) fun H2 e2 => k.go e2
theorem pure_halves (T : Txt K mg C_Session a_GIVEN_COUNTS P1 P2 P3) : ∀ vs H Q E, sp_halves K C_Session a_GIVEN_COUNTS P1 P2 P3 vs H Q E → t_halves K C_Session a_GIVEN_COUNTS P1 P2 P3 { nx := fun _ H' => Q .non H', rt := Q } (start N_halves vs) H := by
  rintro vs H Q E ⟨z, rfl, h1, h2, k⟩
  unfold Kv413.half at k
  refine q_when (et_test (ev_eqI (ev_op (ev_var rfl) ev_c (rv_I (by decide))) ev_c)) (fun hb H1 e1 => ?_) (fun hb H1 e1 => ?_)
  · rw [if_pos (of_decide_eq_true hb)] at k
    exact s_retL (el_lst (ea_cons (ev_op (ev_var rfl) ev_c (rv_I ⟨by omega, by omega⟩)) (ea_cons ev_c ea_nil)) (by show 2 ≤ 100000; decide)) fun p H2 hp e2 h2 => k.go e1 hp e2 h2
  · rw [if_neg (of_decide_eq_false hb)] at k
    exact s_retL (el_lst (ea_cons (ev_var rfl) (ea_cons ev_c ea_nil)) (by show 2 ≤ 100000; decide)) fun p H2 hp e2 h2 => k.go e1 hp e2 h2
theorem half_len (z : Int) : (Kv413.half z).length = 2 := by
  unfold Kv413.half
  split <;> rfl
theorem pure_crossing (T : Txt K mg C_Session a_GIVEN_COUNTS P1 P2 P3) : ∀ vs H Q E, sp_crossing K C_Session a_GIVEN_COUNTS P1 P2 P3 vs H Q E → t_crossing K C_Session a_GIVEN_COUNTS P1 P2 P3 (sp_halves K C_Session a_GIVEN_COUNTS P1 P2 P3) { nx := fun _ H' => Q .non H', rt := Q } (start N_crossing vs) H := by
  rintro vs H Q E ⟨u, v, rfl, h1, h2, h3, h4, k⟩
  have hc : u + v = v + u := Int.add_comm u v
  rw [hc] at k
  refine s_retL (el_is (el_catNN (el_callN (ea_cons (ev_op (ev_var rfl) (ev_var rfl) rv_I0) ea_nil) (spl_halves (by omega) (by omega))) (el_callN (ea_cons (ev_op (ev_var rfl) (ev_var rfl) rv_I0) ea_nil) (spl_halves (by omega) (by omega))) ?_) (by rw [List.map_append])) fun p H2 hp e2 h2 => k.go (Ex.refl H) hp e2 h2
  rw [List.length_map, List.length_map, half_len, half_len]
  decide
theorem pure_first_of (T : Txt K mg C_Session a_GIVEN_COUNTS P1 P2 P3) : ∀ vs H Q E, sp_first_of K C_Session a_GIVEN_COUNTS P1 P2 P3 vs H Q E → t_first_of K C_Session a_GIVEN_COUNTS P1 P2 P3 (sp_crossing K C_Session a_GIVEN_COUNTS P1 P2 P3) (sp_time_and_place K C_Session a_GIVEN_COUNTS P1 P2 P3) (sp_time_less_place K C_Session a_GIVEN_COUNTS P1 P2 P3) { nx := fun _ H' => Q .non H', rt := Q } (start N_first_of vs) H := by
  rintro vs H Q E ⟨v, w, e, f, rfl, hv, hw, he, hf, k⟩
  unfold Small at he hf
  refine s_retL (el_callN (ea_cons (ev_max2 (ev_callN (ea_cons (ev_var rfl) ea_nil) (spv_less hv)) (ev_callN (ea_cons (ev_var rfl) ea_nil) (spv_less hw))) (ea_cons (ev_max2 (ev_callN (ea_cons (ev_var rfl) ea_nil) (spv_both hv)) (ev_callN (ea_cons (ev_var rfl) ea_nil) (spv_both hw))) ea_nil)) (spl_crossing ?_ ?_ ?_ ?_)) fun p H2 hp e2 h2 => k.go (Ex.refl H) hp e2 h2
  all_goals
    simp only [Kv413.Event.u, Kv413.Event.v]
    omega
theorem pure_last_of (T : Txt K mg C_Session a_GIVEN_COUNTS P1 P2 P3) : ∀ vs H Q E, sp_last_of K C_Session a_GIVEN_COUNTS P1 P2 P3 vs H Q E → t_last_of K C_Session a_GIVEN_COUNTS P1 P2 P3 (sp_crossing K C_Session a_GIVEN_COUNTS P1 P2 P3) (sp_time_and_place K C_Session a_GIVEN_COUNTS P1 P2 P3) (sp_time_less_place K C_Session a_GIVEN_COUNTS P1 P2 P3) { nx := fun _ H' => Q .non H', rt := Q } (start N_last_of vs) H := by
  rintro vs H Q E ⟨v, w, e, f, rfl, hv, hw, he, hf, k⟩
  unfold Small at he hf
  refine s_retL (el_callN (ea_cons (ev_min2 (ev_callN (ea_cons (ev_var rfl) ea_nil) (spv_less hv)) (ev_callN (ea_cons (ev_var rfl) ea_nil) (spv_less hw))) (ea_cons (ev_min2 (ev_callN (ea_cons (ev_var rfl) ea_nil) (spv_both hv)) (ev_callN (ea_cons (ev_var rfl) ea_nil) (spv_both hw))) ea_nil)) (spl_crossing ?_ ?_ ?_ ?_)) fun p H2 hp e2 h2 => k.go (Ex.refl H) hp e2 h2
  all_goals
    simp only [Kv413.Event.u, Kv413.Event.v]
    omega
end
end Lw

set_option Elab.async false
set_option linter.all false
set_option autoImplicit false
set_option maxRecDepth 100000
set_option maxHeartbeats 4000000
namespace Lw
open PySem PySem.Spec PyProof.Rows L2 Evl

/-! ### the object in the heap -/
def flds : List Str := ["begun", "points", "earlier"]
theorem lookup_none {m : Str} : ∀ {fs : List (Str × V)} {ks : List Str}, fs.map (·.1) = ks → (ks.all fun f => !(m == f)) = true → fs.lookup m = none
  | [], _, _, _ => rfl
  | (g, v) :: r, ks, h, hm => by
    subst h
    rw [List.map_cons, List.all_cons, Bool.and_eq_true, Bool.not_eq_true'] at hm
    rw [lk_past hm.1]
    exact lookup_none rfl hm.2
structure Sess (C : Addr) (H : Hp) (s : Addr) (es : List Evt) : Prop where
  ex : ∃ (dx : Addr) (fs : List (Str × V)) (p : Addr) (vs : List V), H s = some (.ins C dx fs) ∧ fs.map (·.1) = flds ∧ fs.lookup ("points" : Str) = some (V.ref p) ∧ H p = some (.lst vs) ∧ EvsAt H vs es
  sm : ∀ e ∈ es, Small e
  le : es.length ≤ 10
theorem Sess.mono {C : Addr} {H H' : Hp} {s : Addr} {es : List Evt} (S : Sess C H s es) (x : Ex H H') : Sess C H' s es := by
  obtain ⟨dx, fs, p, vs, h1, h2, h3, h4, h5⟩ := S.ex
  exact ⟨⟨dx, fs, p, vs, x _ _ h1, h2, h3, x _ _ h4, h5.ex x⟩, S.sm, S.le⟩
abbrev atE (es : List Evt) (i : Int) : Evt := (Kv413.Now.mk es).at_ i.toNat
theorem atE_get {es : List Evt} {i : Int} (h0 : 0 ≤ i) (hl : i < es.length) : es[i.toNat]? = some (atE es i) := by
  have h : i.toNat < es.length := by omega
  show _ = some (es.getD i.toNat ⟨0, 0⟩)
  rw [List.getD_eq_getElem?_getD, List.getElem?_eq_getElem h]
  rfl
theorem atE_small {es : List Evt} {i : Int} (hs : ∀ e ∈ es, Small e) (h0 : 0 ≤ i) (hl : i < es.length) : Small (atE es i) := hs _ (List.mem_of_getElem? (atE_get h0 hl))
def hasB (es : List Evt) (i : Int) : Bool := decide (0 ≤ i) && decide (i < es.length)
theorem hasB_iff {es : List Evt} {i : Int} : hasB es i = true ↔ 0 ≤ i ∧ i < es.length := by
  unfold hasB
  rw [Bool.and_eq_true, decide_eq_true_iff, decide_eq_true_iff]
theorem no_of {es : List Evt} {i : Int} (h0 : 0 ≤ i) : (Kv413.Now.mk es).no i.toNat = !hasB es i := by
  unfold Kv413.Now.no hasB
  show decide (es.length ≤ i.toNat) = _
  by_cases h : i < es.length
  · rw [decide_eq_true h0, decide_eq_true h, decide_eq_false (by omega)]
    rfl
  · rw [decide_eq_false h, Bool.and_false, decide_eq_true (by omega)]
    rfl
section
variable {K : PySem.W.Frag} {mg : Str → Option Value} {C A P1 P2 P3 : Addr} {σ : L2.St} {H : Hp} {ta tb te : TE}
theorem ev_pts {s : Addr} {es : List Evt} (T : Txt K mg C A P1 P2 P3) (S : Sess C H s es) (h : Ev ta σ H (.ref s)) : ∃ p vs, Ev (tFld K ta "points") σ H (.ref p) ∧ H p = some (.lst vs) ∧ EvsAt H vs es := by
  obtain ⟨dx, fs, p, vs, h1, h2, h3, h4, h5⟩ := S.ex
  exact ⟨p, vs, ev_fld h h1 T.cl_Session T.f_Session_points h3, h4, h5⟩
theorem ev_pt {s : Addr} {es : List Evt} {i : Int} (T : Txt K mg C A P1 P2 P3) (S : Sess C H s es) (h : Ev ta σ H (.ref s)) (hi : Ev tb σ H (.int i)) (h0 : 0 ≤ i) (hl : i < es.length) :
    ∃ v, EvAt H v (atE es i) ∧ Ev (tOp (rIxL K) (tFld K ta "points") tb) σ H v := by
  obtain ⟨p, vs, h1, h2, h3⟩ := ev_pts T S h
  obtain ⟨v, hv, he⟩ := Paired.at h3 (atE_get h0 hl)
  exact ⟨v, he, ev_op h1 hi (rv_ixL (sq_of h2) (at_of (by omega) hv))⟩
theorem el_callL {sp : Sp} {xs ys : List V} {E : XK} (h : EvL te σ H xs) (hs : ∀ p H1, Ex H H1 → H1 p = some (.lst xs) → SpL sp [.ref p] H1 ys) : EvL (tCall sp [] E (tCons te tNil)) σ H ys := fun H1 e Q q =>
  h H1 e _ fun p H2 _ e2 hp => hs p H2 (e.trans e2) hp H2 (Ex.refl H2) Q (fun p3 H3 hp3 e3 h3 => q p3 H3 (fresh_back e2 hp3) (e2.trans e3) h3) E

/-! ### has, others -/
def sp_Session_has (K : PySem.W.Frag) (C A P1 P2 P3 : Addr) : Sp := fun vs H Q _ => ∃ s es i, vs = [.ref s, .int i] ∧ Sess C H s es ∧ RetV (.bl (hasB es i)) H Q
theorem len_Session_has : ∀ vs H Q E, sp_Session_has K C A P1 P2 P3 vs H Q E → vs.length = 2 := by
  rintro vs H Q E ⟨_, _, _, rfl, _⟩
  rfl
theorem pure_Session_has (T : Txt K mg C A P1 P2 P3) : ∀ vs H Q E, sp_Session_has K C A P1 P2 P3 vs H Q E → t_Session_has K C A P1 P2 P3 { nx := fun _ H' => Q .non H', rt := Q } (start N_Session_has vs) H := by
  rintro vs H Q E ⟨s, es, i, rfl, S, k⟩
  obtain ⟨p, ws, h1, h2, h3⟩ := ev_pts T S (σ := start N_Session_has [.ref s, .int i]) (ta := tVar 0) (ev_var rfl)
  refine s_ret (ev_is (ev_chain ev_c (ev_var rfl) rv_I0 (fun _ => ev_lenL h1 h2) (fun _ => rv_I0)) ?_) fun H1 e1 => k.go e1
  show V.bl (decide (0 ≤ i) && decide (i < (ws.length : Int))) = V.bl (decide (0 ≤ i) && decide (i < (es.length : Int)))
  rw [Paired.len h3]
theorem spv_has {s : Addr} {es : List Evt} {i : Int} (S : Sess C H s es) : SpV (sp_Session_has K C A P1 P2 P3) [.ref s, .int i] H (.bl (hasB es i)) := fun H1 x Q q E => ⟨s, es, i, rfl, S.mono x, q⟩
theorem ev_has {s : Addr} {es : List Evt} {i : Int} {E : XK} (S : Sess C H s es) (h : Ev ta σ H (.ref s)) (hi : Ev tb σ H (.int i)) : Ev (tMeth C "has" (sp_Session_has K C A P1 P2 P3) [] E ta (tCons tb tNil)) σ H (.bl (hasB es i)) := by
  obtain ⟨dx, fs, p, vs, h1, h2, h3, h4, h5⟩ := S.ex
  exact ev_meth h h1 (lookup_none h2 (by decide +kernel)) (ea_cons hi ea_nil) (spv_has S)
def othersOf (es : List Evt) (i j : Int) : List Nat := (List.range es.length).filter fun k => !decide ((k : Int) = i) && !decide ((k : Int) = j)
theorem othersOf_len (es : List Evt) (i j : Int) : (othersOf es i j).length ≤ es.length := by
  unfold othersOf
  have h := List.length_filter_le (fun k : Nat => !decide ((k : Int) = i) && !decide ((k : Int) = j)) (List.range es.length)
  rw [List.length_range] at h
  exact h
theorem othersOf_lt {es : List Evt} {i j : Int} {k : Nat} (h : k ∈ othersOf es i j) : k < es.length := List.mem_range.mp (List.mem_filter.mp h).1
def sp_Session_others (K : PySem.W.Frag) (C A P1 P2 P3 : Addr) : Sp := fun vs H Q _ => ∃ s es i j, vs = [.ref s, .int i, .int j] ∧ Sess C H s es ∧ RetL ((othersOf es i j).map fun k => V.int (k : Nat)) H Q
theorem len_Session_others : ∀ vs H Q E, sp_Session_others K C A P1 P2 P3 vs H Q E → vs.length = 3 := by
  rintro vs H Q E ⟨_, _, _, _, rfl, _⟩
  rfl
theorem pure_Session_others (T : Txt K mg C A P1 P2 P3) : ∀ vs H Q E, sp_Session_others K C A P1 P2 P3 vs H Q E → t_Session_others K C A P1 P2 P3 { nx := fun _ H' => Q .non H', rt := Q } (start N_Session_others vs) H := by
  rintro vs H Q E ⟨s, es, i, j, rfl, S, k⟩
  obtain ⟨p, ws, h1, h2, h3⟩ := ev_pts T S (σ := start N_Session_others [.ref s, .int i, .int j]) (ta := tVar 0) (ev_var rfl)
  have hl := Paired.len h3
  have := S.le
  refine s_retL (el_is (el_lcR1 (n := (ws.length : Int)) (fun k => !decide ((k : Int) = i) && !decide ((k : Int) = j)) (fun k => V.int (k : Nat)) (ea_cons (ev_lenL h1 h2) ea_nil) ⟨by omega, by omega⟩ (fun _ => rfl) ?_ ?_) ?_) fun q H1 hq e1 h4 => k.go (Ex.refl H) hq e1 h4
  · intro k H1 _ _
    exact et_and (et_ne (ev_var rfl) (ev_var rfl)) fun _ => et_ne (ev_var rfl) (ev_var rfl)
  · intro k H1 _ _ _
    exact ev_var rfl
  · unfold given othersOf
    rw [hl]
    rfl
theorem spl_others {s : Addr} {es : List Evt} {i j : Int} (S : Sess C H s es) : SpL (sp_Session_others K C A P1 P2 P3) [.ref s, .int i, .int j] H ((othersOf es i j).map fun k => V.int (k : Nat)) := fun H1 x Q q E => ⟨s, es, i, j, rfl, S.mono x, q⟩
theorem el_others {s : Addr} {es : List Evt} {i j : Int} {E : XK} {tc : TE} (S : Sess C H s es) (h : Ev ta σ H (.ref s)) (hi : Ev tb σ H (.int i)) (hj : Ev tc σ H (.int j)) : EvL (tMeth C "others" (sp_Session_others K C A P1 P2 P3) [] E ta (tCons tb (tCons tc tNil))) σ H ((othersOf es i j).map fun k => V.int (k : Nat)) := by
  obtain ⟨dx, fs, p, vs, h1, h2, h3, h4, h5⟩ := S.ex
  exact el_meth h h1 (lookup_none h2 (by decide +kernel)) (ea_cons hi (ea_cons hj ea_nil)) (spl_others S)

/-! ### two events asked for -/
def two (es : List Evt) (i j : Int) (l : List Int) : List Int := if (Kv413.Now.mk es).no i.toNat = true ∨ (Kv413.Now.mk es).no j.toNat = true then [-2] else l
def one (es : List Evt) (i : Int) (l : List Int) : List Int := if (Kv413.Now.mk es).no i.toNat = true then [-2] else l
theorem two_no {es : List Evt} {i j : Int} {l : List Int} (h0 : 0 ≤ i) (h1 : 0 ≤ j) (h : (hasB es i && hasB es j) = false) : two es i j l = [-2] := by
  unfold two
  rw [no_of h0, no_of h1, if_pos]
  rw [Bool.and_eq_false_iff] at h
  rcases h with h | h
  · exact .inl (by rw [h]; rfl)
  · exact .inr (by rw [h]; rfl)
theorem two_yes {es : List Evt} {i j : Int} {l : List Int} (h0 : 0 ≤ i) (h1 : 0 ≤ j) (h : (hasB es i && hasB es j) = true) : two es i j l = l := by
  unfold two
  rw [no_of h0, no_of h1, if_neg]
  rw [Bool.and_eq_true] at h
  rw [h.1, h.2]
  decide
theorem one_no {es : List Evt} {i : Int} {l : List Int} (h0 : 0 ≤ i) (h : hasB es i = false) : one es i l = [-2] := by
  unfold one
  rw [no_of h0, h]
  rfl
theorem one_yes {es : List Evt} {i : Int} {l : List Int} (h0 : 0 ≤ i) (h : hasB es i = true) : one es i l = l := by
  unfold one
  rw [no_of h0, h, if_neg (by decide)]
theorem el_one {a : Int} (h : Ev te σ H (.int a)) : EvL (tLst (tCons te tNil)) σ H (([a] : List Int).map V.int) := el_lst (ea_cons h ea_nil) (by show 1 ≤ 100000; decide)
theorem el_two {a b : Int} (h : Ev ta σ H (.int a)) (h2 : Ev tb σ H (.int b)) : EvL (tLst (tCons ta (tCons tb tNil))) σ H (([a, b] : List Int).map V.int) := el_lst (ea_cons h (ea_cons h2 ea_nil)) (by show 2 ≤ 100000; decide)
def sp_two (C : Addr) (f : List Evt → Int → Int → List Int) : Sp := fun vs H Q _ => ∃ s es i j, vs = [.ref s, .int i, .int j] ∧ 0 ≤ i ∧ 0 ≤ j ∧ Sess C H s es ∧ RetL ((two es i j (f es i j)).map V.int) H Q
def sp_one (C : Addr) (f : List Evt → Int → List Int) : Sp := fun vs H Q _ => ∃ s es i, vs = [.ref s, .int i] ∧ 0 ≤ i ∧ Sess C H s es ∧ RetL ((one es i (f es i)).map V.int) H Q
theorem len_two {f : List Evt → Int → Int → List Int} : ∀ vs H Q E, sp_two C f vs H Q E → vs.length = 3 := by
  rintro vs H Q E ⟨_, _, _, _, rfl, _⟩
  rfl
theorem len_one {f : List Evt → Int → List Int} : ∀ vs H Q E, sp_one C f vs H Q E → vs.length = 2 := by
  rintro vs H Q E ⟨_, _, _, rfl, _⟩
  rfl
def fHeard (es : List Evt) (i j : Int) : List Int := [((Kv413.bit (Kv413.heard (atE es i) (atE es j)) : Nat) : Int)]
def fKind (es : List Evt) (i j : Int) : List Int := [((Kv413.kind (atE es i) (atE es j) : Nat) : Int)]
def fSquare (es : List Evt) (i j : Int) : List Int := [0, Kv413.square (atE es i) (atE es j)]
def listed (l : List Nat) : List Int := (l.length : Int) :: l.map Int.ofNat
def fPast (es : List Evt) (i : Int) : List Int := listed ((Kv413.Now.mk es).past i.toNat)
def fFuture (es : List Evt) (i : Int) : List Int := listed ((Kv413.Now.mk es).future i.toNat)
def fBetween (es : List Evt) (i j : Int) : List Int := listed ((Kv413.Now.mk es).between i.toNat j.toNat)
def sp_Session_heard (K : PySem.W.Frag) (C A P1 P2 P3 : Addr) : Sp := sp_two C fHeard
def sp_Session_kind (K : PySem.W.Frag) (C A P1 P2 P3 : Addr) : Sp := sp_two C fKind
def sp_Session_square (K : PySem.W.Frag) (C A P1 P2 P3 : Addr) : Sp := sp_two C fSquare
def sp_Session_past (K : PySem.W.Frag) (C A P1 P2 P3 : Addr) : Sp := sp_one C fPast
def sp_Session_future (K : PySem.W.Frag) (C A P1 P2 P3 : Addr) : Sp := sp_one C fFuture
def sp_Session_between (K : PySem.W.Frag) (C A P1 P2 P3 : Addr) : Sp := sp_two C fBetween
theorem len_Session_heard : ∀ vs H Q E, sp_Session_heard K C A P1 P2 P3 vs H Q E → vs.length = 3 := len_two
theorem len_Session_kind : ∀ vs H Q E, sp_Session_kind K C A P1 P2 P3 vs H Q E → vs.length = 3 := len_two
theorem len_Session_square : ∀ vs H Q E, sp_Session_square K C A P1 P2 P3 vs H Q E → vs.length = 3 := len_two
theorem len_Session_between : ∀ vs H Q E, sp_Session_between K C A P1 P2 P3 vs H Q E → vs.length = 3 := len_two
theorem len_Session_past : ∀ vs H Q E, sp_Session_past K C A P1 P2 P3 vs H Q E → vs.length = 2 := len_one
theorem len_Session_future : ∀ vs H Q E, sp_Session_future K C A P1 P2 P3 vs H Q E → vs.length = 2 := len_one
/-- if not (self.has(i) and self.has(j)): return [-2]; then the rest -/
theorem q_two {s : Addr} {es : List Evt} {i j : Int} {l : List Int} {Q : VK} {nx : L2.St → Hp → Prop} {E : XK} {tz : TS} (S : Sess C H s es) (h0 : σ[0]? = some (some (.ref s))) (h1 : σ[1]? = some (some (.int i))) (h2 : σ[2]? = some (some (.int j))) (hi : 0 ≤ i) (hj : 0 ≤ j)
    (k : RetL ((two es i j l).map V.int) H Q)
    (go : 0 ≤ i → i < es.length → 0 ≤ j → j < es.length → ∀ H1, Ex H H1 → Sess C H1 s es → RetL (l.map V.int) H1 Q → tz { nx := nx, rt := Q } σ H1) :
    tSeq (tIfS (tNot (tAnd (tB (tMeth C "has" (sp_Session_has K C A P1 P2 P3) [] E (tVar 0) (tCons (tVar 1) (tNil)))) (tB (tMeth C "has" (sp_Session_has K C A P1 P2 P3) [] E (tVar 0) (tCons (tVar 2) (tNil)))))) (tRet (tLst (tCons (tC (.int (-2))) (tNil)))) (tNext)) tz { nx := nx, rt := Q } σ H := by
  refine q_when (et_not (et_and (et_B (ev_has S (ev_var h0) (ev_var h1))) fun _ => et_B (ev_has S (ev_var h0) (ev_var h2)))) (fun hb H1 e1 => ?_) (fun hb H1 e1 => ?_)
  · rw [two_no hi hj (by rw [Bool.not_eq_true'] at hb; exact hb)] at k
    exact s_retL (el_one ev_c) fun p H2 hp e2 h2 => k.go e1 hp e2 h2
  · have hb' : (hasB es i && hasB es j) = true := by
      rw [Bool.not_eq_false'] at hb
      exact hb
    rw [two_yes hi hj hb'] at k
    rw [Bool.and_eq_true, hasB_iff, hasB_iff] at hb'
    exact go hi hb'.1.2 hj hb'.2.2 H1 e1 (S.mono e1) fun p H2 hp e2 h2 => k p H2 (fresh_back e1 hp) (e1.trans e2) h2
theorem q_one {s : Addr} {es : List Evt} {i : Int} {l : List Int} {Q : VK} {nx : L2.St → Hp → Prop} {E : XK} {tz : TS} (S : Sess C H s es) (h0 : σ[0]? = some (some (.ref s))) (h1 : σ[1]? = some (some (.int i))) (hi : 0 ≤ i)
    (k : RetL ((one es i l).map V.int) H Q)
    (go : 0 ≤ i → i < es.length → ∀ H1, Ex H H1 → Sess C H1 s es → RetL (l.map V.int) H1 Q → tz { nx := nx, rt := Q } σ H1) :
    tSeq (tIfS (tNot (tB (tMeth C "has" (sp_Session_has K C A P1 P2 P3) [] E (tVar 0) (tCons (tVar 1) (tNil))))) (tRet (tLst (tCons (tC (.int (-2))) (tNil)))) (tNext)) tz { nx := nx, rt := Q } σ H := by
  refine q_when (et_not (et_B (ev_has S (ev_var h0) (ev_var h1)))) (fun hb H1 e1 => ?_) (fun hb H1 e1 => ?_)
  · rw [one_no hi (by rw [Bool.not_eq_true'] at hb; exact hb)] at k
    exact s_retL (el_one ev_c) fun p H2 hp e2 h2 => k.go e1 hp e2 h2
  · have hb' : hasB es i = true := by
      rw [Bool.not_eq_false'] at hb
      exact hb
    rw [one_yes hi hb'] at k
    rw [hasB_iff] at hb'
    exact go hi hb'.2 H1 e1 (S.mono e1) fun p H2 hp e2 h2 => k p H2 (fresh_back e1 hp) (e1.trans e2) h2
theorem pure_Session_heard (T : Txt K mg C A P1 P2 P3) : ∀ vs H Q E, sp_Session_heard K C A P1 P2 P3 vs H Q E → t_Session_heard K C A P1 P2 P3 (sp_is_heard K C A P1 P2 P3) (sp_Session_has K C A P1 P2 P3) { nx := fun _ H' => Q .non H', rt := Q } (start N_Session_heard vs) H := by
  rintro vs H Q E ⟨s, es, i, j, rfl, hi, hj, S, k⟩
  refine q_two S rfl rfl rfl hi hj k fun i0 il j0 jl H1 e1 S1 k1 => ?_
  obtain ⟨v, hv, ev⟩ := ev_pt (σ := start N_Session_heard [.ref s, .int i, .int j]) (ta := tVar 0) (tb := tVar 1) T S1 (ev_var rfl) (ev_var rfl) i0 il
  obtain ⟨w, hw, ew⟩ := ev_pt (σ := start N_Session_heard [.ref s, .int i, .int j]) (ta := tVar 0) (tb := tVar 2) T S1 (ev_var rfl) (ev_var rfl) j0 jl
  refine s_retL (el_one (a := ((Kv413.bit (Kv413.heard (atE es i) (atE es j)) : Nat) : Int)) (ev_if (et_B (ev_callN (ea_cons ev (ea_cons ew ea_nil)) (spv_is_heard hv hw))) (fun h => ev_is ev_c ?_) (fun h => ev_is ev_c ?_))) fun p H2 hp e2 h2 => k1.go (Ex.refl H1) hp e2 h2
  · rw [h]; rfl
  · rw [h]; rfl
theorem pure_Session_kind (T : Txt K mg C A P1 P2 P3) : ∀ vs H Q E, sp_Session_kind K C A P1 P2 P3 vs H Q E → t_Session_kind K C A P1 P2 P3 (sp_kind_of K C A P1 P2 P3) (sp_Session_has K C A P1 P2 P3) { nx := fun _ H' => Q .non H', rt := Q } (start N_Session_kind vs) H := by
  rintro vs H Q E ⟨s, es, i, j, rfl, hi, hj, S, k⟩
  refine q_two S rfl rfl rfl hi hj k fun i0 il j0 jl H1 e1 S1 k1 => ?_
  obtain ⟨v, hv, ev⟩ := ev_pt (σ := start N_Session_kind [.ref s, .int i, .int j]) (ta := tVar 0) (tb := tVar 1) T S1 (ev_var rfl) (ev_var rfl) i0 il
  obtain ⟨w, hw, ew⟩ := ev_pt (σ := start N_Session_kind [.ref s, .int i, .int j]) (ta := tVar 0) (tb := tVar 2) T S1 (ev_var rfl) (ev_var rfl) j0 jl
  exact s_retL (el_one (ev_callN (ea_cons ev (ea_cons ew ea_nil)) (spv_kind_of hv hw (atE_small S.sm i0 il) (atE_small S.sm j0 jl)))) fun p H2 hp e2 h2 => k1.go (Ex.refl H1) hp e2 h2
theorem pure_Session_square (T : Txt K mg C A P1 P2 P3) : ∀ vs H Q E, sp_Session_square K C A P1 P2 P3 vs H Q E → t_Session_square K C A P1 P2 P3 (sp_square_of K C A P1 P2 P3) (sp_Session_has K C A P1 P2 P3) { nx := fun _ H' => Q .non H', rt := Q } (start N_Session_square vs) H := by
  rintro vs H Q E ⟨s, es, i, j, rfl, hi, hj, S, k⟩
  refine q_two S rfl rfl rfl hi hj k fun i0 il j0 jl H1 e1 S1 k1 => ?_
  obtain ⟨v, hv, ev⟩ := ev_pt (σ := start N_Session_square [.ref s, .int i, .int j]) (ta := tVar 0) (tb := tVar 1) T S1 (ev_var rfl) (ev_var rfl) i0 il
  obtain ⟨w, hw, ew⟩ := ev_pt (σ := start N_Session_square [.ref s, .int i, .int j]) (ta := tVar 0) (tb := tVar 2) T S1 (ev_var rfl) (ev_var rfl) j0 jl
  exact s_retL (el_two ev_c (ev_callN (ea_cons ev (ea_cons ew ea_nil)) (spv_square_of hv hw (atE_small S.sm i0 il) (atE_small S.sm j0 jl)))) fun p H2 hp e2 h2 => k1.go (Ex.refl H1) hp e2 h2

/-! ### a comprehension over numbers of events -/
theorem range_get {α : Type} (d : α) : ∀ l : List α, (List.range l.length).map (fun i => l.getD i d) = l
  | [] => rfl
  | x :: l => by
    rw [List.length_cons, List.range_succ_eq_map, List.map_cons, List.map_map]
    congr 1
    exact range_get d l
theorem given_filter {α : Type} (d : α) (l : List α) (g : α → Bool) (f : α → V) : given l.length (fun i => g (l.getD i d)) (fun i => f (l.getD i d)) = (l.filter g).map f := by
  unfold given
  have h : l.filter g = ((List.range l.length).filter (fun i => g (l.getD i d))).map (fun i => l.getD i d) := by
    have e := range_get d l
    conv => lhs; rw [← e]
    rw [List.filter_map]
    rfl
  rw [h, List.map_map]
  rfl
theorem toNat_ne {i : Int} (h0 : 0 ≤ i) (k : Nat) : (!decide ((k : Int) = i)) = (k != i.toNat) := by
  by_cases h : (k : Int) = i
  · have : k = i.toNat := by omega
    rw [decide_eq_true h, this]
    simp
  · have : k ≠ i.toNat := by omega
    rw [decide_eq_false h, bne_iff_ne.mpr this]
    rfl
theorem past_eq (es : List Evt) {i : Int} (h0 : 0 ≤ i) : (othersOf es i i).filter (fun k => Kv413.heard (atE es (k : Nat)) (atE es i)) = (Kv413.Now.mk es).past i.toNat := by
  unfold othersOf Kv413.Now.past Kv413.Now.all
  rw [List.filter_filter]
  refine List.filter_congr fun k _ => ?_
  rw [toNat_ne h0, Bool.and_self, Bool.and_comm]
  rfl
theorem future_eq (es : List Evt) {i : Int} (h0 : 0 ≤ i) : (othersOf es i i).filter (fun k => Kv413.heard (atE es i) (atE es (k : Nat))) = (Kv413.Now.mk es).future i.toNat := by
  unfold othersOf Kv413.Now.future Kv413.Now.all
  rw [List.filter_filter]
  refine List.filter_congr fun k _ => ?_
  rw [toNat_ne h0, Bool.and_self, Bool.and_comm]
  rfl
theorem between_eq (es : List Evt) {i j : Int} (h0 : 0 ≤ i) (h1 : 0 ≤ j) : (othersOf es i j).filter (fun k => Kv413.heard (atE es i) (atE es (k : Nat)) && Kv413.heard (atE es (k : Nat)) (atE es j)) = (Kv413.Now.mk es).between i.toNat j.toNat := by
  unfold othersOf Kv413.Now.between Kv413.Now.all
  rw [List.filter_filter]
  refine List.filter_congr fun k _ => ?_
  rw [toNat_ne h0, toNat_ne h1, Bool.and_comm, Bool.and_assoc, Bool.and_assoc, Bool.and_assoc]
  rfl
theorem listed_map (l : List Nat) : listed l = ((l.length : Int) :: l.map fun k => ((k : Nat) : Int)) := rfl
theorem mapV (l : List Nat) : (l.map fun k => ((k : Nat) : Int)).map V.int = l.map fun k => V.int (k : Nat) := by
  rw [List.map_map]
  rfl
theorem spl_listed {p : Addr} {l : List Nat} (h : H p = some (.lst (l.map fun k => V.int (k : Nat)))) (hl : l.length ≤ 10000000) : SpL (sp_counted K C A P1 P2 P3) [.ref p] H ((listed l).map V.int) := by
  have h' : H p = some (.lst ((l.map fun k => ((k : Nat) : Int)).map V.int)) := by
    rw [mapV]
    exact h
  have r := spl_counted (K := K) (C_Session := C) (a_GIVEN_COUNTS := A) (P1 := P1) (P2 := P2) (P3 := P3) h' (by rw [List.length_map]; exact hl)
  rw [List.length_map] at r
  exact r
theorem othersOf_get {es : List Evt} {i j : Int} {k : Nat} {x : V} (h : ((othersOf es i j).map fun k => V.int (k : Nat))[k]? = some x) : x = .int ((othersOf es i j).getD k 0 : Nat) ∧ ((othersOf es i j).getD k 0) < es.length := by
  rw [List.getElem?_map] at h
  rw [List.getD_eq_getElem?_getD]
  cases e : (othersOf es i j)[k]? with
  | none =>
    rw [e] at h
    cases h
  | some m =>
    rw [e] at h
    exact ⟨(Option.some.inj h).symm, othersOf_lt (List.mem_of_getElem? e)⟩
theorem pure_Session_past (T : Txt K mg C A P1 P2 P3) : ∀ vs H Q E, sp_Session_past K C A P1 P2 P3 vs H Q E → t_Session_past K C A P1 P2 P3 (sp_counted K C A P1 P2 P3) (sp_is_heard K C A P1 P2 P3) (sp_Session_has K C A P1 P2 P3) (sp_Session_others K C A P1 P2 P3) { nx := fun _ H' => Q .non H', rt := Q } (start N_Session_past vs) H := by
  rintro vs H Q E ⟨s, es, i, rfl, hi, S, k⟩
  refine q_one S rfl rfl hi k fun i0 il H1 e1 S1 k1 => ?_
  obtain ⟨v, hv, ev⟩ := ev_pt (σ := start N_Session_past [.ref s, .int i]) (ta := tVar 0) (tb := tVar 1) T S1 (ev_var rfl) (ev_var rfl) i0 il
  refine q_asg ev fun H2 e2 => ?_
  have S2 := S1.mono e2
  have hv2 := hv.ex e2
  refine s_retL (el_callL (ys := (fPast es i).map V.int) (el_lcNL (fun m => Kv413.heard (atE es ((othersOf es i i).getD m 0 : Nat)) (atE es i)) (fun m => V.int ((othersOf es i i).getD m 0 : Nat)) (el_others S2 (ev_var rfl) (ev_var rfl) (ev_var rfl)) ?_ (fun _ => rfl) ?_ ?_) ?_) fun p H3 hp e3 h3 => k1.go e2 hp e3 h3
  · rw [List.length_map]
    have := othersOf_len es i i
    have := S.le
    omega
  · intro m x H3 e3 hx
    obtain ⟨rfl, hm⟩ := othersOf_get hx
    obtain ⟨w, hw, ew⟩ := ev_pt (σ := [some (.ref s), some (.int i), some v, some (.int ((othersOf es i i).getD m 0 : Nat))]) (ta := tVar 0) (tb := tVar 3) T (S2.mono e3) (ev_var rfl) (ev_var rfl) (by omega) (by omega)
    exact et_B (ev_callN (ea_cons ew (ea_cons (ev_var rfl) ea_nil)) (spv_is_heard hw (hv2.ex e3)))
  · intro m x H3 e3 hx _
    obtain ⟨rfl, hm⟩ := othersOf_get hx
    exact ev_var rfl
  · intro p H3 e3 hp
    rw [List.length_map, given_filter 0 (othersOf es i i) (fun k => Kv413.heard (atE es (k : Nat)) (atE es i)) (fun k => V.int (k : Nat)), past_eq es i0] at hp
    refine spl_listed hp ?_
    rw [← past_eq es i0]
    have := List.length_filter_le (fun k : Nat => Kv413.heard (atE es (k : Nat)) (atE es i)) (othersOf es i i)
    have := othersOf_len es i i
    have := S.le
    omega
theorem pure_Session_future (T : Txt K mg C A P1 P2 P3) : ∀ vs H Q E, sp_Session_future K C A P1 P2 P3 vs H Q E → t_Session_future K C A P1 P2 P3 (sp_counted K C A P1 P2 P3) (sp_is_heard K C A P1 P2 P3) (sp_Session_has K C A P1 P2 P3) (sp_Session_others K C A P1 P2 P3) { nx := fun _ H' => Q .non H', rt := Q } (start N_Session_future vs) H := by
  rintro vs H Q E ⟨s, es, i, rfl, hi, S, k⟩
  refine q_one S rfl rfl hi k fun i0 il H1 e1 S1 k1 => ?_
  obtain ⟨v, hv, ev⟩ := ev_pt (σ := start N_Session_future [.ref s, .int i]) (ta := tVar 0) (tb := tVar 1) T S1 (ev_var rfl) (ev_var rfl) i0 il
  refine q_asg ev fun H2 e2 => ?_
  have S2 := S1.mono e2
  have hv2 := hv.ex e2
  refine s_retL (el_callL (ys := (fFuture es i).map V.int) (el_lcNL (fun m => Kv413.heard (atE es i) (atE es ((othersOf es i i).getD m 0 : Nat))) (fun m => V.int ((othersOf es i i).getD m 0 : Nat)) (el_others S2 (ev_var rfl) (ev_var rfl) (ev_var rfl)) ?_ (fun _ => rfl) ?_ ?_) ?_) fun p H3 hp e3 h3 => k1.go e2 hp e3 h3
  · rw [List.length_map]
    have := othersOf_len es i i
    have := S.le
    omega
  · intro m x H3 e3 hx
    obtain ⟨rfl, hm⟩ := othersOf_get hx
    obtain ⟨w, hw, ew⟩ := ev_pt (σ := [some (.ref s), some (.int i), some v, some (.int ((othersOf es i i).getD m 0 : Nat))]) (ta := tVar 0) (tb := tVar 3) T (S2.mono e3) (ev_var rfl) (ev_var rfl) (by omega) (by omega)
    exact et_B (ev_callN (ea_cons (ev_var rfl) (ea_cons ew ea_nil)) (spv_is_heard (hv2.ex e3) hw))
  · intro m x H3 e3 hx _
    obtain ⟨rfl, hm⟩ := othersOf_get hx
    exact ev_var rfl
  · intro p H3 e3 hp
    rw [List.length_map, given_filter 0 (othersOf es i i) (fun k => Kv413.heard (atE es i) (atE es (k : Nat))) (fun k => V.int (k : Nat)), future_eq es i0] at hp
    refine spl_listed hp ?_
    rw [← future_eq es i0]
    have := List.length_filter_le (fun k : Nat => Kv413.heard (atE es i) (atE es (k : Nat))) (othersOf es i i)
    have := othersOf_len es i i
    have := S.le
    omega
theorem pure_Session_between (T : Txt K mg C A P1 P2 P3) : ∀ vs H Q E, sp_Session_between K C A P1 P2 P3 vs H Q E → t_Session_between K C A P1 P2 P3 (sp_is_heard K C A P1 P2 P3) (sp_counted K C A P1 P2 P3) (sp_Session_has K C A P1 P2 P3) (sp_Session_others K C A P1 P2 P3) { nx := fun _ H' => Q .non H', rt := Q } (start N_Session_between vs) H := by
  rintro vs H Q E ⟨s, es, i, j, rfl, hi, hj, S, k⟩
  refine q_two S rfl rfl rfl hi hj k fun i0 il j0 jl H1 e1 S1 k1 => ?_
  obtain ⟨v, hv, ev⟩ := ev_pt (σ := start N_Session_between [.ref s, .int i, .int j]) (ta := tVar 0) (tb := tVar 1) T S1 (ev_var rfl) (ev_var rfl) i0 il
  refine q_asg ev fun H2 e2 => ?_
  have S2 := S1.mono e2
  obtain ⟨w, hw, ew⟩ := ev_pt (σ := (start N_Session_between [.ref s, .int i, .int j]).set 3 (some v)) (ta := tVar 0) (tb := tVar 2) T S2 (ev_var rfl) (ev_var rfl) j0 jl
  refine q_asg ew fun H3 e3 => ?_
  have x3 := e2.trans e3
  have S3 := S2.mono e3
  have hv3 := hv.ex x3
  have hw3 := hw.ex e3
  refine q_asgL (xs := []) (el_lst ea_nil (by show 0 ≤ 100000; decide)) fun l H4 hl e4 h4 => ?_
  have S4 := S3.mono e4
  let G : Nat → Bool := fun k => Kv413.heard (atE es i) (atE es (k : Nat)) && Kv413.heard (atE es (k : Nat)) (atE es j)
  let ms := othersOf es i j
  refine q_forNLn (el_others S4 (ev_var rfl) (ev_var rfl) (ev_var rfl)) (fun p m σ' H' => ∃ o : Option V, σ' = [some (.ref s), some (.int i), some (.int j), some v, some w, some (.ref l), o] ∧ Ex H3 H' ∧ H' p = some (.lst (ms.map fun k => V.int (k : Nat))) ∧ p ≠ l ∧ H' l = some (.lst (((ms.take m).filter G).map fun k => V.int (k : Nat)))) ?_ ?_ ?_ ?_
  · intro p H5 hp e5 h5
    refine ⟨none, rfl, e4.trans e5, h5, ?_, e5 _ _ h4⟩
    intro z
    rw [z] at hp
    rw [hp] at h4
    cases h4
  · rintro p m σ' H' _ ⟨_, _, _, h5, _⟩
    exact sq_of h5
  · rintro p m x σ' H' hx ⟨o, rfl, x5, h5, hne, h6⟩
    obtain ⟨rfl, hm⟩ := othersOf_get hx
    have hget : ms[m]? = some (ms.getD m 0) := by
      rw [List.getD_eq_getElem?_getD]
      rw [List.getElem?_map] at hx
      cases e : ms[m]? with
      | none =>
        have e' : (othersOf es i j)[m]? = none := e
        rw [e'] at hx
        cases hx
      | some y => rfl
    have htk : ms.take (m + 1) = ms.take m ++ [ms.getD m 0] := by
      rw [List.take_succ, hget]
      rfl
    have S5 := S3.mono x5
    obtain ⟨u, hu, eu⟩ := ev_pt (σ := [some (.ref s), some (.int i), some (.int j), some v, some w, some (.ref l), some (.int (ms.getD m 0 : Nat))]) (ta := tVar 0) (tb := tVar 6) T S5 (ev_var rfl) (ev_var rfl) (Int.natCast_nonneg _) (Int.ofNat_lt.mpr hm)
    refine s_when (b := G (ms.getD m 0)) (et_and (et_B (ev_callN (ea_cons (ev_var rfl) (ea_cons eu ea_nil)) (spv_is_heard (hv3.ex x5) hu))) fun _ => et_B (ev_callN (ea_cons eu (ea_cons (ev_var rfl) ea_nil)) (spv_is_heard hu (hw3.ex x5)))) (fun hb H6 e6 => ?_) (fun hb H6 e6 => ?_)
    · refine s_app (e6 _ _ h6) (ev_var rfl) (ev_var rfl) ?_ fun H7 e7 => ⟨_, rfl, Ex.mut ((x5.trans e6).trans e7) hl, ?_, hne, ?_⟩
      · rw [List.length_map]
        have := List.length_filter_le G (ms.take m)
        rw [List.length_take] at this
        have : ms.length ≤ es.length := othersOf_len es i j
        have := S.le
        omega
      · rw [upd_ne hne]
        exact e7 _ _ (e6 _ _ h5)
      · rw [htk, List.filter_append, List.map_append, List.filter_cons, if_pos hb]
        exact upd_same
    · refine ⟨_, rfl, x5.trans e6, e6 _ _ h5, hne, ?_⟩
      rw [htk, List.filter_append, List.map_append, List.filter_cons, if_neg (by rw [hb]; decide)]
      show H6 l = some (.lst (_ ++ []))
      rw [List.append_nil]
      exact e6 _ _ h6
  · rintro p σ' H' ⟨o, rfl, x5, h5, hne, h6⟩
    rw [List.length_map, List.take_length] at h6
    have h7 : (ms.filter G) = (Kv413.Now.mk es).between i.toNat j.toNat := between_eq es i0 j0
    rw [h7] at h6
    refine s_retL (el_callN (ea_cons (ev_var rfl) ea_nil) (spl_listed h6 ?_)) fun q H6 hq e6 h8 => k1.go (x3.trans x5) hq e6 h8
    rw [← h7]
    have := List.length_filter_le G ms
    have : ms.length ≤ es.length := othersOf_len es i j
    have := S.le
    omega

/-! ### events -/
def flat (es : List Evt) : List Int := es.flatMap fun e => [e.t, e.x]
def fEvents (es : List Evt) : List Int := (es.length : Int) :: flat es
theorem flat_take {es : List Evt} {m : Nat} {e : Evt} (h : es[m]? = some e) : flat (es.take (m + 1)) = flat (es.take m) ++ [e.t, e.x] := by
  unfold flat
  rw [List.take_succ, h, List.flatMap_append]
  rfl
theorem flat_len : ∀ es : List Evt, (flat es).length = 2 * es.length
  | [] => rfl
  | e :: r => by
    show (e.t :: e.x :: flat r).length = _
    rw [List.length_cons, List.length_cons, flat_len r, List.length_cons]
    omega
def sp_Session_events (K : PySem.W.Frag) (C A P1 P2 P3 : Addr) : Sp := fun vs H Q _ => ∃ s es, vs = [.ref s] ∧ Sess C H s es ∧ RetL ((fEvents es).map V.int) H Q
theorem len_Session_events : ∀ vs H Q E, sp_Session_events K C A P1 P2 P3 vs H Q E → vs.length = 1 := by
  rintro vs H Q E ⟨_, _, rfl, _⟩
  rfl
theorem Paired.at2 {α β : Type} {F : α → β → Prop} : ∀ {l : List α} {m : List β} {i : Nat} {x : α}, Paired F l m → l[i]? = some x → ∃ y, m[i]? = some y ∧ F x y
  | _, _, i, x, .nil, h => by simp at h
  | _, _, 0, x, .cons a b, h => ⟨_, rfl, by
    have e : _ = x := Option.some.inj h
    rw [← e]
    exact a⟩
  | _, _, i + 1, x, .cons a b, h => Paired.at2 (i := i) b h
theorem pure_Session_events (T : Txt K mg C A P1 P2 P3) : ∀ vs H Q E, sp_Session_events K C A P1 P2 P3 vs H Q E → t_Session_events K C A P1 P2 P3 { nx := fun _ H' => Q .non H', rt := Q } (start N_Session_events vs) H := by
  rintro vs H Q E ⟨s, es, rfl, S, k⟩
  obtain ⟨dx, fs, p, ws, a1, a2, a3, a4, a5⟩ := S.ex
  have hl := Paired.len a5
  have hle := S.le
  refine q_asgL (el_one (ev_is (ev_lenL (ev_fld (ev_var rfl) a1 T.cl_Session T.f_Session_points a3) a4) (congrArg (fun n : Nat => V.int (n : Int)) hl))) fun l H1 hl1 e1 h4 => ?_
  refine q_forLn (ev_fld (ev_var rfl) (e1 _ _ a1) T.cl_Session T.f_Session_points a3) (sq_of (e1 _ _ a4)) (fun m σ' H' => ∃ o : Option V, σ' = [some (.ref s), some (.ref l), o] ∧ Ex H H' ∧ H' l = some (.lst (((es.length : Int) :: flat (es.take m)).map V.int))) ?_ ?_ ?_ ?_
  · intro H2 e2
    exact ⟨none, rfl, e1.trans e2, e2 _ _ h4⟩
  · rintro m σ' H' _ ⟨_, _, x5, _⟩
    exact sq_of (x5 _ _ a4)
  · rintro m x σ' H' hx ⟨o, rfl, x5, h6⟩
    obtain ⟨e, he, q, rfl, hq⟩ := Paired.at2 a5 hx
    have hm : m < es.length := (List.getElem?_eq_some_iff.mp he).1
    have hfl := flat_len (es.take m)
    rw [List.length_take] at hfl
    refine q_app h6 (ev_var rfl) (ev_op (ev_var rfl) ev_c (rv_ixT (st_of (x5 _ _ hq)) rfl)) ?_ fun H6 e6 => ?_
    · rw [List.length_map, List.length_cons, hfl]
      omega
    have x6 := Ex.mut (o := .lst (((es.length : Int) :: flat (es.take m)).map V.int ++ [V.int e.t])) (x5.trans e6) hl1
    refine s_app upd_same (ev_var rfl) (ev_op (ev_var rfl) ev_c (rv_ixT (st_of (x6 _ _ hq)) rfl)) ?_ fun H7 e7 => ⟨_, rfl, Ex.mut (x6.trans e7) hl1, ?_⟩
    · rw [List.length_append, List.length_map, List.length_cons, hfl]
      show _ + 1 < _
      omega
    · rw [flat_take he]
      refine Eq.trans upd_same ?_
      simp only [List.map_cons, List.map_append, List.cons_append, List.append_assoc, List.map_nil, List.nil_append]
  · rintro σ' H' ⟨o, rfl, x5, h6⟩
    rw [hl, List.take_length] at h6
    exact s_ret (ev_var rfl) fun H6 e6 => k l H6 hl1 (x5.trans e6) (e6 _ _ h6)
end
end Lw

set_option Elab.async false
set_option linter.all false
set_option autoImplicit false
set_option maxRecDepth 100000
set_option maxHeartbeats 4000000
namespace Lw
open PySem PySem.Spec PyProof.Rows L2 Evl
section
variable {K : PySem.W.Frag} {mg : Str → Option Value} {C A P1 P2 P3 : Addr} {σ : L2.St} {H : Hp} {ta tb te : TE}
/-! ### aside -/
def fAside (es : List Evt) (i : Int) : List Int := listed ((Kv413.Now.mk es).aside i.toNat)
def sp_Session_aside (K : PySem.W.Frag) (C A P1 P2 P3 : Addr) : Sp := sp_one C fAside
theorem len_Session_aside : ∀ vs H Q E, sp_Session_aside K C A P1 P2 P3 vs H Q E → vs.length = 2 := len_one
theorem kind_self (e : Evt) : Kv413.kind e e = 0 := by
  unfold Kv413.kind
  rw [if_pos rfl]
theorem kind_dec (n : Nat) : decide ((n : Int) = 3) = (n == 3) := by
  by_cases h : n = 3
  · rw [h]
    rfl
  · rw [decide_eq_false (by omega), beq_eq_false_iff_ne.mpr h]
theorem aside_eq (es : List Evt) {i : Int} (h0 : 0 ≤ i) : (othersOf es i i).filter (fun k => decide (((Kv413.kind (atE es i) (atE es (k : Nat)) : Nat) : Int) = 3)) = (Kv413.Now.mk es).aside i.toNat := by
  unfold othersOf Kv413.Now.aside Kv413.Now.all
  rw [List.filter_filter]
  refine List.filter_congr fun k _ => ?_
  rw [toNat_ne h0, Bool.and_self, kind_dec]
  by_cases h : k = i.toNat
  · have e : Kv413.kind (atE es i) (atE es (k : Nat)) = 0 := by
      rw [h]
      exact kind_self _
    have e' : Kv413.kind ((Kv413.Now.mk es).at_ i.toNat) ((Kv413.Now.mk es).at_ k) = 0 := e
    rw [e, e']
    rfl
  · rw [bne_iff_ne.mpr h, Bool.and_true]
    rfl
theorem pure_Session_aside (T : Txt K mg C A P1 P2 P3) : ∀ vs H Q E, sp_Session_aside K C A P1 P2 P3 vs H Q E → t_Session_aside K C A P1 P2 P3 (sp_counted K C A P1 P2 P3) (sp_kind_of K C A P1 P2 P3) (sp_Session_has K C A P1 P2 P3) (sp_Session_others K C A P1 P2 P3) { nx := fun _ H' => Q .non H', rt := Q } (start N_Session_aside vs) H := by
  rintro vs H Q E ⟨s, es, i, rfl, hi, S, k⟩
  refine q_one S rfl rfl hi k fun i0 il H1 e1 S1 k1 => ?_
  obtain ⟨v, hv, ev⟩ := ev_pt (σ := start N_Session_aside [.ref s, .int i]) (ta := tVar 0) (tb := tVar 1) T S1 (ev_var rfl) (ev_var rfl) i0 il
  refine q_asg ev fun H2 e2 => ?_
  have S2 := S1.mono e2
  have hv2 := hv.ex e2
  refine s_retL (el_callL (ys := (fAside es i).map V.int) (el_lcNL (fun m => decide (((Kv413.kind (atE es i) (atE es ((othersOf es i i).getD m 0 : Nat)) : Nat) : Int) = 3)) (fun m => V.int ((othersOf es i i).getD m 0 : Nat)) (el_others S2 (ev_var rfl) (ev_var rfl) (ev_var rfl)) ?_ (fun _ => rfl) ?_ ?_) ?_) fun p H3 hp e3 h3 => k1.go e2 hp e3 h3
  · rw [List.length_map]
    have := othersOf_len es i i
    have := S.le
    omega
  · intro m x H3 e3 hx
    obtain ⟨rfl, hm⟩ := othersOf_get hx
    obtain ⟨w, hw, ew⟩ := ev_pt (σ := [some (.ref s), some (.int i), some v, some (.int ((othersOf es i i).getD m 0 : Nat))]) (ta := tVar 0) (tb := tVar 3) T (S2.mono e3) (ev_var rfl) (ev_var rfl) (by omega) (by omega)
    exact et_test (ev_eqI (ev_callN (ea_cons (ev_var rfl) (ea_cons ew ea_nil)) (spv_kind_of (hv2.ex e3) hw (atE_small S.sm i0 il) (atE_small S.sm (by omega) (by omega)))) ev_c)
  · intro m x H3 e3 hx _
    obtain ⟨rfl, hm⟩ := othersOf_get hx
    exact ev_var rfl
  · intro p H3 e3 hp
    rw [List.length_map, given_filter 0 (othersOf es i i) (fun k => decide (((Kv413.kind (atE es i) (atE es (k : Nat)) : Nat) : Int) = 3)) (fun k => V.int (k : Nat)), aside_eq es i0] at hp
    refine spl_listed hp ?_
    rw [← aside_eq es i0]
    have := List.length_filter_le (fun k : Nat => decide (((Kv413.kind (atE es i) (atE es (k : Nat)) : Nat) : Int) = 3)) (othersOf es i i)
    have := othersOf_len es i i
    have := S.le
    omega

/-! ### first, last -/
def fFirst (es : List Evt) (i j : Int) : List Int := 0 :: firstL (atE es i) (atE es j)
def fLast (es : List Evt) (i j : Int) : List Int := 0 :: lastL (atE es i) (atE es j)
def sp_Session_first (K : PySem.W.Frag) (C A P1 P2 P3 : Addr) : Sp := sp_two C fFirst
def sp_Session_last (K : PySem.W.Frag) (C A P1 P2 P3 : Addr) : Sp := sp_two C fLast
theorem len_Session_first : ∀ vs H Q E, sp_Session_first K C A P1 P2 P3 vs H Q E → vs.length = 3 := len_two
theorem len_Session_last : ∀ vs H Q E, sp_Session_last K C A P1 P2 P3 vs H Q E → vs.length = 3 := len_two
theorem firstL_len (e f : Evt) : (firstL e f).length = 4 := by
  unfold firstL
  rw [List.length_append, half_len, half_len]
theorem lastL_len (e f : Evt) : (lastL e f).length = 4 := by
  unfold lastL
  rw [List.length_append, half_len, half_len]
theorem pure_Session_first (T : Txt K mg C A P1 P2 P3) : ∀ vs H Q E, sp_Session_first K C A P1 P2 P3 vs H Q E → t_Session_first K C A P1 P2 P3 (sp_first_of K C A P1 P2 P3) (sp_Session_has K C A P1 P2 P3) { nx := fun _ H' => Q .non H', rt := Q } (start N_Session_first vs) H := by
  rintro vs H Q E ⟨s, es, i, j, rfl, hi, hj, S, k⟩
  refine q_two S rfl rfl rfl hi hj k fun i0 il j0 jl H1 e1 S1 k1 => ?_
  obtain ⟨v, hv, ev⟩ := ev_pt (σ := start N_Session_first [.ref s, .int i, .int j]) (ta := tVar 0) (tb := tVar 1) T S1 (ev_var rfl) (ev_var rfl) i0 il
  obtain ⟨w, hw, ew⟩ := ev_pt (σ := start N_Session_first [.ref s, .int i, .int j]) (ta := tVar 0) (tb := tVar 2) T S1 (ev_var rfl) (ev_var rfl) j0 jl
  refine s_retL (el_is (el_catNN (el_one ev_c) (el_callN (ea_cons ev (ea_cons ew ea_nil)) (spl_first hv hw (atE_small S.sm i0 il) (atE_small S.sm j0 jl))) ?_) rfl) fun p H2 hp e2 h2 => k1.go (Ex.refl H1) hp e2 h2
  rw [List.length_map, List.length_map, firstL_len]
  decide
theorem pure_Session_last (T : Txt K mg C A P1 P2 P3) : ∀ vs H Q E, sp_Session_last K C A P1 P2 P3 vs H Q E → t_Session_last K C A P1 P2 P3 (sp_last_of K C A P1 P2 P3) (sp_Session_has K C A P1 P2 P3) { nx := fun _ H' => Q .non H', rt := Q } (start N_Session_last vs) H := by
  rintro vs H Q E ⟨s, es, i, j, rfl, hi, hj, S, k⟩
  refine q_two S rfl rfl rfl hi hj k fun i0 il j0 jl H1 e1 S1 k1 => ?_
  obtain ⟨v, hv, ev⟩ := ev_pt (σ := start N_Session_last [.ref s, .int i, .int j]) (ta := tVar 0) (tb := tVar 1) T S1 (ev_var rfl) (ev_var rfl) i0 il
  obtain ⟨w, hw, ew⟩ := ev_pt (σ := start N_Session_last [.ref s, .int i, .int j]) (ta := tVar 0) (tb := tVar 2) T S1 (ev_var rfl) (ev_var rfl) j0 jl
  refine s_retL (el_is (el_catNN (el_one ev_c) (el_callN (ea_cons ev (ea_cons ew ea_nil)) (spl_last hv hw (atE_small S.sm i0 il) (atE_small S.sm j0 jl))) ?_) rfl) fun p H2 hp e2 h2 => k1.go (Ex.refl H1) hp e2 h2
  rw [List.length_map, List.length_map, lastL_len]
  decide

/-! ### reach, by -/
theorem ok_iff {t x : Int} : (Kv413.ok t && Kv413.ok x) = true ↔ Small ⟨t, x⟩ := by
  unfold Kv413.ok Small
  simp only [Bool.and_eq_true, decide_eq_true_iff, and_assoc]
theorem ok_or {t x : Int} : (Kv413.ok t = false ∨ Kv413.ok x = false) ↔ (Kv413.ok t && Kv413.ok x) = false := by
  rw [Bool.and_eq_false_iff]
theorem ev_callU {sp : Sp} {xs : List V} {E : XK} {x z : V} (ha : Ev ta σ H x) (hb : EvU tb σ H xs) (hs : ∀ p H1, Ex H H1 → H1 p = some (.tup xs) → SpV sp [x, .ref p] H1 z) : Ev (tCall sp [] E (tCons ta (tCons tb tNil))) σ H z := fun H1 e Q q =>
  ha H1 e _ fun H2 e2 => hb H2 (e.trans e2) _ fun p H3 _ e3 hp => hs p H3 ((e.trans e2).trans e3) hp H3 (Ex.refl H3) Q (fun H4 e4 => q H4 ((e2.trans e3).trans e4)) E
def fReach (es : List Evt) (i t x : Int) : List Int := if Kv413.ok t = false ∨ Kv413.ok x = false then [-22] else [((Kv413.bit (Kv413.heard (atE es i) ⟨t, x⟩) : Nat) : Int)]
def sp_Session_reach (K : PySem.W.Frag) (C A P1 P2 P3 : Addr) : Sp := fun vs H Q _ => ∃ s es i t x, vs = [.ref s, .int i, .int t, .int x] ∧ 0 ≤ i ∧ Sess C H s es ∧ RetL ((one es i (fReach es i t x)).map V.int) H Q
theorem len_Session_reach : ∀ vs H Q E, sp_Session_reach K C A P1 P2 P3 vs H Q E → vs.length = 4 := by
  rintro vs H Q E ⟨_, _, _, _, _, rfl, _⟩
  rfl
theorem pure_Session_reach (T : Txt K mg C A P1 P2 P3) : ∀ vs H Q E, sp_Session_reach K C A P1 P2 P3 vs H Q E → t_Session_reach K C A P1 P2 P3 (sp_in_range K C A P1 P2 P3) (sp_is_heard K C A P1 P2 P3) (sp_Session_has K C A P1 P2 P3) { nx := fun _ H' => Q .non H', rt := Q } (start N_Session_reach vs) H := by
  rintro vs H Q E ⟨s, es, i, t, x, rfl, hi, S, k⟩
  refine q_one S rfl rfl hi k fun i0 il H1 e1 S1 k1 => ?_
  unfold fReach at k1
  refine q_when (et_not (et_and (et_B (ev_callN (ea_cons (ev_var rfl) ea_nil) spv_in_range)) fun _ => et_B (ev_callN (ea_cons (ev_var rfl) ea_nil) spv_in_range))) (fun hb H2 e2 => ?_) (fun hb H2 e2 => ?_)
  · rw [Bool.not_eq_true'] at hb
    rw [if_pos (ok_or.mpr hb)] at k1
    exact s_retL (el_one ev_c) fun p H3 hp e3 h3 => k1.go e2 hp e3 h3
  rw [Bool.not_eq_false'] at hb
  rw [if_neg (fun z => by rw [ok_or.mp z] at hb; cases hb)] at k1
  have S2 := S1.mono e2
  obtain ⟨v, hv, ev⟩ := ev_pt (σ := start N_Session_reach [.ref s, .int i, .int t, .int x]) (ta := tVar 0) (tb := tVar 1) T S2 (ev_var rfl) (ev_var rfl) i0 il
  refine s_retL (el_one (a := ((Kv413.bit (Kv413.heard (atE es i) ⟨t, x⟩) : Nat) : Int)) (ev_if (et_B (ev_callU ev (eu_tup (ea_cons (ev_var rfl) (ea_cons (ev_var rfl) ea_nil)) (by show 2 ≤ 100000; decide)) fun p H3 e3 hp => spv_is_heard (f := ⟨t, x⟩) (hv.ex e3) ⟨p, rfl, hp⟩)) (fun h => ev_is ev_c ?_) (fun h => ev_is ev_c ?_))) fun p H3 hp e3 h3 => k1.go e2 hp e3 h3
  · rw [h]
    rfl
  · rw [h]
    rfl
def fBy (es : List Evt) (i t : Int) : List Int := if Kv413.ok t = false then [-22] else if t < (atE es i).t then [-33] else [0, (atE es i).x - (t - (atE es i).t), (atE es i).x + (t - (atE es i).t)]
def sp_Session_by (K : PySem.W.Frag) (C A P1 P2 P3 : Addr) : Sp := fun vs H Q _ => ∃ s es i t, vs = [.ref s, .int i, .int t] ∧ 0 ≤ i ∧ Sess C H s es ∧ RetL ((one es i (fBy es i t)).map V.int) H Q
theorem len_Session_by : ∀ vs H Q E, sp_Session_by K C A P1 P2 P3 vs H Q E → vs.length = 3 := by
  rintro vs H Q E ⟨_, _, _, _, rfl, _⟩
  rfl
theorem pure_Session_by (T : Txt K mg C A P1 P2 P3) : ∀ vs H Q E, sp_Session_by K C A P1 P2 P3 vs H Q E → t_Session_by K C A P1 P2 P3 (sp_in_range K C A P1 P2 P3) (sp_Session_has K C A P1 P2 P3) { nx := fun _ H' => Q .non H', rt := Q } (start N_Session_by vs) H := by
  rintro vs H Q E ⟨s, es, i, t, rfl, hi, S, k⟩
  refine q_one S rfl rfl hi k fun i0 il H1 e1 S1 k1 => ?_
  unfold fBy at k1
  refine q_when (et_not (et_B (ev_callN (ea_cons (ev_var rfl) ea_nil) spv_in_range))) (fun hb H2 e2 => ?_) (fun hb H2 e2 => ?_)
  · rw [Bool.not_eq_true'] at hb
    rw [if_pos hb] at k1
    exact s_retL (el_one ev_c) fun p H3 hp e3 h3 => k1.go e2 hp e3 h3
  rw [Bool.not_eq_false'] at hb
  rw [if_neg (by rw [hb]; decide)] at k1
  have S2 := S1.mono e2
  obtain ⟨v, hv, ev⟩ := ev_pt (σ := start N_Session_by [.ref s, .int i, .int t]) (ta := tVar 0) (tb := tVar 1) T S2 (ev_var rfl) (ev_var rfl) i0 il
  refine q_asg ev fun H3 e3 => ?_
  obtain ⟨q, rfl, hq⟩ := hv.ex e3
  refine q_asg (ev_op (ev_var rfl) (ev_op (ev_var rfl) ev_c (rv_ixT (st_of hq) rfl)) rv_I0) fun H4 e4 => ?_
  have hq4 := e4 _ _ hq
  have x4 := (e2.trans e3).trans e4
  refine q_when (et_test (ev_op (ev_var rfl) ev_c rv_I0)) (fun hc H5 e5 => ?_) (fun hc H5 e5 => ?_)
  · have hc' := of_decide_eq_true hc
    rw [if_pos (by omega)] at k1
    exact s_retL (el_one ev_c) fun p H6 hp e6 h6 => k1.go (x4.trans e5) hp e6 h6
  · have hc' := of_decide_eq_false hc
    rw [if_neg (by omega)] at k1
    have hq5 := e5 _ _ hq4
    exact s_retL (el_lst (ea_cons ev_c (ea_cons (ev_op (ev_op (ev_var rfl) ev_c (rv_ixT (st_of hq5) rfl)) (ev_var rfl) rv_I0) (ea_cons (ev_op (ev_op (ev_var rfl) ev_c (rv_ixT (st_of hq5) rfl)) (ev_var rfl) rv_I0) ea_nil))) (by show 3 ≤ 100000; decide)) fun p H6 hp e6 h6 => k1.go (x4.trans e5) hp e6 h6
end
end Lw

set_option Elab.async false
set_option linter.all false
set_option autoImplicit false
set_option maxRecDepth 100000
set_option maxHeartbeats 4000000
namespace Lw
open PySem PySem.Spec PyProof.Rows L2 Evl LamX

/-! ### what a step keeps: all but s -/
def Keep (s : Addr) (H H' : Hp) : Prop := ∀ b o, b ≠ s → H b = some o → H' b = some o
theorem Keep.ex {s : Addr} {H H' : Hp} (x : Ex H H') : Keep s H H' := fun b o _ h => x b o h
theorem Keep.trans {s : Addr} {H H1 H2 : Hp} (a : Keep s H H1) (b : Keep s H1 H2) : Keep s H H2 := fun c o n h => b c o n (a c o n h)
theorem Keep.put {s : Addr} {H : Hp} {o : HO} : Keep s H (upd H s o) := fun b u n h => by
  rw [upd_ne n]
  exact h
theorem Tabs.keep {T : List (Addr × Str)} {l : Addr} {H H' : Hp} {u : HO} (t : Tabs T H) (x : Keep l H H') (hl : H l = some u) (h1 : ∀ ps, u ≠ .tbl ps) (h2 : ∀ φ, u ≠ .ext φ) : Tabs T H' := fun p hp => by
  obtain ⟨ps, a1, a2, a3⟩ := t p hp
  refine ⟨ps, x _ _ (fun z => ?_) a1, a2, fun pos cv hc => ?_⟩
  · rw [z, hl] at a1
    exact h1 _ (Option.some.inj a1)
  · obtain ⟨c, e1, e2⟩ := a3 pos cv hc
    refine ⟨c, e1, x _ _ (fun z => ?_) e2⟩
    rw [z, hl] at e2
    exact h2 _ (Option.some.inj e2)
theorem extN_keep {l : Addr} {H H1 H2 : Hp} (x : ExtN H H1) (k : Keep l H1 H2) (hl : H l = none) : ExtN H H2 := fun b o h n => k b o (fun z => by
  rw [z, hl] at h
  cases h) (x b o h n)
/-- the list of the points, as it stands -/
def PtsAt (H : Hp) (p : Addr) (es : List Evt) : Prop := ∃ ws, H p = some (.lst ws) ∧ EvsAt H ws es
theorem PtsAt.ex {H H' : Hp} {p : Addr} {es : List Evt} (x : Ex H H') (h : PtsAt H p es) : PtsAt H' p es := let ⟨ws, a, b⟩ := h; ⟨ws, x _ _ a, b.ex x⟩
theorem EvsAt.extN {H H' : Hp} {vs : List V} {es : List Evt} (x : ExtN H H') (h : EvsAt H vs es) : EvsAt H' vs es := Paired.to (fun _ _ ⟨q, a, b⟩ => ⟨q, a, x _ _ b fun ps z => by cases z⟩) h
theorem PtsAt.extN {H H' : Hp} {p : Addr} {es : List Evt} (x : ExtN H H') (h : PtsAt H p es) : PtsAt H' p es := let ⟨ws, a, b⟩ := h; ⟨ws, x _ _ a (fun ps z => by cases z), b.extN x⟩
theorem PtsAt.keep {H H' : Hp} {p l : Addr} {es : List Evt} {xs : List V} (x : Keep l H H') (hl : H l = some (.lst xs)) (hne : p ≠ l) (h : PtsAt H p es) : PtsAt H' p es := by
  obtain ⟨ws, a, b⟩ := h
  refine ⟨ws, x _ _ hne a, Paired.to (fun v e ⟨q, c, d⟩ => ⟨q, c, x _ _ (fun z => ?_) d⟩) b⟩
  rw [z, hl] at d
  cases d
/-- a list is handed back; tables may have grown -/
def RetN (T : List (Addr × Str)) (xs : List V) (H : Hp) (Q : VK) : Prop := ∀ q H2, ExtN H H2 → Tabs T H2 → H2 q = some (.lst xs) → Q (.ref q) H2
def RetI (T : List (Addr × Str)) (v : V) (H : Hp) (Q : VK) : Prop := ∀ H2, ExtN H H2 → Tabs T H2 → Q v H2
section
variable {K : PySem.W.Frag} {mg : Str → Option Value} {C A P1 P2 P3 : Addr} {σ : L2.St} {H : Hp} {ta tb te : TE}
theorem ev_ixP {p : Addr} {es : List Evt} {i : Int} (h : PtsAt H p es) (ha : Ev ta σ H (.ref p)) (hi : Ev tb σ H (.int i)) (h0 : 0 ≤ i) (hl : i < es.length) : ∃ v, EvAt H v (atE es i) ∧ Ev (tOp (rIxL K) ta tb) σ H v := by
  obtain ⟨ws, h2, h3⟩ := h
  obtain ⟨v, hv, he⟩ := Paired.at h3 (atE_get h0 hl)
  exact ⟨v, he, ev_op ha hi (rv_ixL (sq_of h2) (at_of (by omega) hv))⟩
theorem ev_lenP {p : Addr} {es : List Evt} (h : PtsAt H p es) (ha : Ev ta σ H (.ref p)) : Ev (tCB (rLen K) (tCons ta tNil)) σ H (.int (es.length : Int)) := by
  obtain ⟨ws, h2, h3⟩ := h
  have := ev_lenL (K := K) ha h2
  rw [Paired.len h3] at this
  exact this
theorem el_rep {xs : List V} {n : Nat} (ha : EvL ta σ H xs) (hb : ∀ H1, Ex H H1 → Ev tb σ H1 (.int (n : Int))) (hn : n ≤ 1000) (hx : xs.length ≤ 10) : EvL (tOp rRep ta tb) σ H (List.replicate n xs).flatten := fun H1 e Q q =>
  ha H1 e _ fun p H2 _ e2 hp => hb H2 (e.trans e2) H2 (Ex.refl H2) _ fun H3 e3 => ⟨p, (n : Int), xs, rfl, rfl, e3 _ _ hp, by omega, by omega, (by
    have h1 : (n : Int).toNat = n := rfl
    rw [h1]
    exact sz_of (Nat.le_trans (Nat.mul_le_mul hx hn) (by decide))), fun l hl => q l _ (fresh_back (e2.trans e3) hl) ((e2.trans e3).trans (Ex.new hl)) upd_same⟩
theorem rep_one (x : V) : ∀ n : Nat, (List.replicate n [x]).flatten = List.replicate n x
  | 0 => rfl
  | n + 1 => by
    rw [List.replicate_succ, List.flatten_cons, rep_one x n, List.replicate_succ]
    rfl
theorem ev_maxD {ns : List Int} {d : Int} (h : EvL te σ H (ns.map V.int)) : Ev (tCKw (Lk.rMaxD K) (tCons te tNil) (tCons (tC (.int d)) tNil)) σ H (.int (Lk.topD d ns)) := fun H1 e Q q =>
  h H1 e _ fun p H2 _ e2 hp => ⟨p, ns, d, rfl, rfl, sq_of hp, q H2 e2⟩
theorem ev_maxDV {p : Addr} {ns : List Int} {d : Int} (h : Ev te σ H (.ref p)) (hp : H p = some (.lst (ns.map V.int))) : Ev (tCKw (Lk.rMaxD K) (tCons te tNil) (tCons (tC (.int d)) tNil)) σ H (.int (Lk.topD d ns)) := fun H1 e Q q =>
  h H1 e _ fun H2 e2 => ⟨p, ns, d, rfl, rfl, sq_of (e2 _ _ (e _ _ hp)), q H2 e2⟩
theorem fold_cast : ∀ (l : List Nat) (n : Nat), (l.map fun n : Nat => (n : Int)).foldl max (n : Int) = ((l.foldl max n : Nat) : Int)
  | [], n => rfl
  | x :: l, n => by
    rw [List.map_cons, List.foldl_cons, List.foldl_cons]
    have e : max (n : Int) (x : Int) = ((max n x : Nat) : Int) := by omega
    rw [e]
    exact fold_cast l (max n x)
theorem topD_top : ∀ l : List Nat, Lk.topD 0 (l.map fun n : Nat => (n : Int)) = ((La.top l : Nat) : Int)
  | [] => rfl
  | x :: l => by
    show (l.map fun n : Nat => (n : Int)).foldl max (x : Int) = _
    rw [fold_cast, La.foldl_max, La.top_cons]
abbrev now (es : List Evt) : Kv413.Now := Kv413.Now.mk es
abbrev nums (l : List Nat) : List V := l.map fun n => V.int (n : Nat)
theorem nums_eq (l : List Nat) : nums l = (l.map fun n : Nat => (n : Int)).map V.int := by
  rw [List.map_map]
  rfl
theorem nums_at {l : List Nat} {k : Nat} (h : k < l.length) : (nums l)[k]? = some (V.int (l.getD k 0 : Nat)) := by
  unfold nums
  rw [List.getElem?_map, List.getD_eq_getElem?_getD, List.getElem?_eq_getElem h]
  rfl

/-! ### may_go_on -/
def sp_may_go_on (K : PySem.W.Frag) (C A P1 P2 P3 : Addr) : Sp := fun vs H Q _ => ∃ p es, ∃ k i : Nat, vs = [.ref p, .int (k : Int), .int (i : Int)] ∧ PtsAt H p es ∧ k < es.length ∧ i < es.length ∧ RetV (.bl ((now es).next k i)) H Q
theorem len_may_go_on : ∀ vs H Q E, sp_may_go_on K C A P1 P2 P3 vs H Q E → vs.length = 3 := by
  rintro vs H Q E ⟨_, _, _, _, rfl, _⟩
  rfl
theorem next_go (a : Kv413.Now) (k i : Nat) : a.next k i = if a.at_ k = a.at_ i then decide ((k : Int) < (i : Int)) else Kv413.heard (a.at_ k) (a.at_ i) := by
  have h := La.next_iff (a := a) (i := k) (j := i)
  by_cases e : a.at_ k = a.at_ i
  · rw [if_pos e]
    by_cases l : k < i
    · rw [decide_eq_true (by omega), h]
      refine ⟨by omega, ?_, .inr l⟩
      rw [e, La.heard_iff]
      exact ⟨Int.le_refl _, Int.le_refl _⟩
    · rw [decide_eq_false (by omega)]
      cases z : a.next k i with
      | false => rfl
      | true =>
        obtain ⟨_, _, q⟩ := h.mp z
        rcases q with q | q
        · exact absurd e q
        · exact absurd q l
  · rw [if_neg e]
    have ne : k ≠ i := fun z => e (by rw [z])
    cases z : Kv413.heard (a.at_ k) (a.at_ i) with
    | true => exact h.mpr ⟨ne, z, .inl e⟩
    | false =>
      cases q : a.next k i with
      | false => rfl
      | true =>
        rw [(h.mp q).2.1] at z
        cases z
theorem pure_may_go_on (T : Txt K mg C A P1 P2 P3) : ∀ vs H Q E, sp_may_go_on K C A P1 P2 P3 vs H Q E → t_may_go_on K C A P1 P2 P3 (sp_is_heard K C A P1 P2 P3) { nx := fun _ H' => Q .non H', rt := Q } (start N_may_go_on vs) H := by
  rintro vs H Q E ⟨p, es, k, i, rfl, hp, hk, hi, r⟩
  obtain ⟨v, hv, ev⟩ := ev_ixP (K := K) (σ := start N_may_go_on [.ref p, .int (k : Int), .int (i : Int)]) (ta := tVar 0) (tb := tVar 1) hp (ev_var rfl) (ev_var rfl) (by omega) (by omega)
  obtain ⟨w, hw, ew⟩ := ev_ixP (K := K) (σ := start N_may_go_on [.ref p, .int (k : Int), .int (i : Int)]) (ta := tVar 0) (tb := tVar 2) hp (ev_var rfl) (ev_var rfl) (by omega) (by omega)
  rw [next_go] at r
  have e1 : atE es (k : Int) = (now es).at_ k := rfl
  have e2 : atE es (i : Int) = (now es).at_ i := rfl
  rw [e1] at hv
  rw [e2] at hw
  refine q_when (et_test (ev_op ev ew (rv_eqE hv hw))) (fun hb H1 x1 => ?_) (fun hb H1 x1 => ?_)
  · rw [if_pos (of_decide_eq_true hb)] at r
    exact s_ret (ev_op (ev_var rfl) (ev_var rfl) rv_I0) fun H2 x2 => r.go (x1.trans x2)
  · rw [if_neg (of_decide_eq_false hb)] at r
    exact s_ret (ev_callN (ea_cons (ev.mono x1) (ea_cons (ew.mono x1) ea_nil)) (spv_is_heard (hv.ex x1) (hw.ex x1))) fun H2 x2 => r.go (x1.trans x2)
theorem spv_go {p : Addr} {es : List Evt} {k i : Nat} (hp : PtsAt H p es) (hk : k < es.length) (hi : i < es.length) : SpV (sp_may_go_on K C A P1 P2 P3) [.ref p, .int (k : Int), .int (i : Int)] H (.bl ((now es).next k i)) := fun H1 x Q q E => ⟨p, es, k, i, rfl, hp.ex x, hk, hi, q⟩

/-! ### row_lengths -/
def sp_row_lengths (K : PySem.W.Frag) (C A P1 P2 P3 : Addr) : Sp := fun vs H Q _ => ∃ p es, vs = [.ref p] ∧ PtsAt H p es ∧ es.length ≤ 10 ∧ Tabs (tabsT P1 P2 P3) H ∧ RetN (tabsT P1 P2 P3) (nums ((List.range es.length).map (now es).long)) H Q
theorem len_row_lengths : ∀ vs H Q E, sp_row_lengths K C A P1 P2 P3 vs H Q E → vs.length = 1 := by
  rintro vs H Q E ⟨_, _, rfl, _⟩
  rfl
theorem rg_at {n i : Nat} {x : V} (h : (rgV 0 (n : Int))[i]? = some x) : i < n ∧ x = .int (i : Int) := by
  have hl := (List.getElem?_eq_some_iff.mp h).1
  rw [rgV_length] at hl
  have hi : i < n := by omega
  refine ⟨hi, ?_⟩
  unfold rgV at h
  have e : ((n : Int) - 0).toNat = n := by omega
  rw [e, List.getElem?_map, List.getElem?_range hi] at h
  have h' : V.int (0 + (i : Int)) = x := Option.some.inj h
  rw [← h', Int.zero_add]
theorem rg_pick {n : Nat} {k : List Nat} (h : ∀ i ∈ k, i < n) : (k.map fun i => (rgV 0 (n : Int)).getD i .non) = nums k := by
  refine List.map_congr_left fun i hi => ?_
  have hl : i < (rgV 0 (n : Int)).length := by
    rw [rgV_length]
    have := h i hi
    omega
  have := rg_at (n := n) (i := i) (x := (rgV 0 (n : Int))[i]) (List.getElem?_eq_getElem hl)
  rw [List.getD_eq_getElem?_getD, List.getElem?_eq_getElem hl, Option.getD_some, this.2]
theorem pure_row_lengths (T : Txt K mg C A P1 P2 P3) : ∀ vs H Q E, sp_row_lengths K C A P1 P2 P3 vs H Q E → t_row_lengths K C A P1 P2 P3 (sp_may_go_on K C A P1 P2 P3) { nx := fun _ H' => Q .non H', rt := Q } (start N_row_lengths vs) H := by
  rintro vs H Q E ⟨p, es, rfl, hp, hle, hT, r⟩
  -- lengths = [0] * len(points)
  refine q_asgL (el_rep (n := es.length) (el_lst (ea_cons ev_c ea_nil) (by show 1 ≤ 100000; decide)) (fun H1 x1 => ev_lenP (hp.ex x1) (ev_var rfl)) (by omega) (by show 1 ≤ 10; decide)) fun L H1 hL x1 h1 => ?_
  rw [rep_one] at h1
  have hp1 := hp.ex x1
  have hT1 := hT.ext x1
  -- sorted(range(len(points)), key=..)
  refine ev_lenP (σ := [some (.ref p), some (.ref L), none, none]) hp1 (ev_var rfl) H1 (Ex.refl H1) _ fun H2 x2 => ⟨(es.length : Int), rfl, fun q hq => ?_⟩
  have x2' := x2.trans (Ex.new (o := .rng 0 (es.length : Int)) hq)
  refine ⟨hT1.ext x2', q, rgV 0 (es.length : Int), true, 2, La.kyT (now es), rfl, .inr ⟨es.length, by omega, upd_same, rfl⟩, by rw [rgV_length]; omega, fun H3 xN i x hx => ?_, fun D H5 ord hord xN hT5 hfr hD => ?_⟩
  · obtain ⟨hi, rfl⟩ := rg_at hx
    have hp3 := (hp1.ex x2').extN xN
    obtain ⟨v, ⟨qv, rfl, hqv⟩, ev⟩ := ev_ixP (K := K) (σ := [some (.ref p), some (.ref L), none, some (.int (i : Int))]) (ta := tVar 0) (tb := tVar 3) hp3 (ev_var rfl) (ev_var rfl) (by omega) (by omega)
    refine eu_tup (σ := [some (.ref p), some (.ref L), none, some (.int (i : Int))]) (ea_cons (ev_op ev ev_c (rv_ixT (st_of hqv) rfl)) (ea_cons (ev_var rfl) ea_nil)) (by show 2 ≤ 100000; decide) H3 (Ex.refl H3) _ fun u H4 hu x4 h4 => ⟨x4, rfl, by decide, ?_⟩
    rw [if_pos rfl]
    exact ⟨u, rfl, h4⟩
  -- the loop
  rw [rgV_length] at hord
  have en : ((es.length : Int) - 0).toNat = es.length := by omega
  rw [en] at hord
  have hord' : Lk.Ord (La.kyT (now es)) (now es).l.length ord := hord
  rw [rg_pick (fun i hi => hord.lt hi)] at hD
  have hol : ord.length = es.length := by rw [hord.perm.length_eq, List.length_range]
  have h2L : upd H2 q (.rng 0 (es.length : Int)) L = some (.lst (List.replicate es.length (.int 0))) := x2' _ _ h1
  have h5L : H5 L = some (.lst (List.replicate es.length (.int 0))) := xN _ _ h2L (fun ps z => by cases z)
  have hne : D ≠ L := Ne.symm (hfr _ _ h2L (fun ps z => by cases z))
  have xH5 : ExtN H H5 := (ExtN.of (x1.trans x2')).trans xN
  have hp5 := hp.extN xH5
  have hpL : p ≠ L := by
    obtain ⟨ws, a, _⟩ := hp
    exact ne_of_none a hL
  refine ⟨D, rfl, ⟨_, sq_of hD⟩, for_list (xs := nums ord) (fun m σ' H' => ∃ o : Option V, σ' = [some (.ref p), some (.ref L), o, none] ∧ Keep L H5 H' ∧ H' L = some (.lst (nums (La.lens (now es) ord m)))) ⟨none, rfl, Keep.ex (Ex.refl H5), ?_⟩ ?_ ?_ ?_⟩
  · rw [La.lens_zero, h5L]
    unfold nums
    rw [List.map_replicate]
    rfl
  · rintro m σ' H' _ ⟨_, _, kp, _⟩
    exact sq_of (kp _ _ hne hD)
  · rintro m x σ' H' hx ⟨o, rfl, kp, h6⟩
    have hm : m < ord.length := by
      have := (List.getElem?_eq_some_iff.mp hx).1
      unfold nums at this
      rw [List.length_map] at this
      exact this
    rw [nums_at hm] at hx
    obtain rfl := Option.some.inj hx
    have hmi : ord[m]? = some (ord.getD m 0) := by
      rw [List.getD_eq_getElem?_getD, List.getElem?_eq_getElem hm]
      rfl
    generalize ord.getD m 0 = i at hmi
    have hi : i < es.length := hord.lt (List.mem_of_getElem? hmi)
    have hp6 := hp5.keep kp h5L hpL
    have hlen : (nums (La.lens (now es) ord m)).length = es.length := by
      unfold nums
      rw [List.length_map, La.lens_len]
    show tAsg _ (gSub _ _ _) _ [some (.ref p), some (.ref L), some (.int (i : Int)), none] H'
    refine s_setL (xs := nums (La.lens (now es) ord m)) (j := i) (v := .int ((now es).long i : Nat)) h6 ?_ (ev_var rfl) (ev_var rfl) (by rw [hlen]; exact hi) fun H7 x7 => ?_
    · refine ev_is (ev_op ev_c (ev_maxD (ns := (((List.range es.length).filter fun k => (now es).next k i).map fun k => (La.lens (now es) ord m).getD k 0).map fun n : Nat => (n : Int)) (el_is (el_lcR1 (n := (es.length : Int)) (fun k => (now es).next k i) (fun k => V.int ((La.lens (now es) ord m).getD k 0 : Nat)) (ea_cons (ev_lenP hp6 (ev_var rfl)) ea_nil) ⟨by omega, by omega⟩ (fun _ => rfl) ?_ ?_) ?_)) rv_I0) ?_
      · intro k H8 x8 hk
        exact et_B (ev_callN (ea_cons (ev_var rfl) (ea_cons (ev_var rfl) (ea_cons (ev_var rfl) ea_nil))) (spv_go (hp6.ex x8) (by omega) hi))
      · intro k H8 x8 hk _
        exact ev_op (ev_var rfl) (ev_var rfl) (rv_ixL (sq_of (x8 _ _ h6)) (at_of rfl (nums_at (by rw [La.lens_len]; show k < es.length; omega))))
      · unfold given
        have e1 : (es.length : Int).toNat = es.length := rfl
        rw [e1, List.map_map, List.map_map]
        rfl
      · rw [topD_top]
        have := La.lens_turn hord' hmi hi
        show V.int (1 + ((La.top _ : Nat) : Int)) = _
        rw [← this]
        congr 1
    · refine ⟨_, rfl, (kp.trans (Keep.ex x7)).trans Keep.put, ?_⟩
      rw [La.lens_next hmi hi]
      refine upd_same.trans ?_
      unfold nums
      rw [List.map_set]
  · rintro σ' H' ⟨o, rfl, kp, h6⟩
    have hl : (nums ord).length = ord.length := by
      unfold nums
      rw [List.length_map]
    rw [hl, La.lens_done hord'] at h6
    refine s_ret (ev_var rfl) fun H7 x7 => r L H7 ((extN_keep xH5 kp hL).trans (ExtN.of x7)) (LamX.Tabs.ext (Tabs.keep hT5 kp h5L (fun ps z => by cases z) (fun φ z => by cases z)) x7) (x7 _ _ h6)
end
end Lw

set_option Elab.async false
set_option linter.all false
set_option autoImplicit false
set_option maxRecDepth 100000
set_option maxHeartbeats 4000000
namespace La
open Kv413
/-- what may end the clock's rest -/
structure Cand (a : Now) (E cl : List Nat) : Prop where
  lt : ∀ j ∈ E, j < a.l.length
  nil : E = [] → cl = a.clock
  min : ∀ j ∈ E, (∀ k ∈ E, j ≤ k) → rowTo a j ++ cl = a.clock
theorem cand_start (a : Now) : Cand a ((List.range a.l.length).filter fun i => decide ((a.long i : Int) = (a.longest : Int))) [] := by
  have mem : ∀ j, j ∈ (List.range a.l.length).filter (fun i => decide ((a.long i : Int) = (a.longest : Int))) ↔ j < a.l.length ∧ a.long j = a.longest := fun j => by
    rw [List.mem_filter, List.mem_range, decide_eq_true_iff]
    omega
  refine ⟨fun j hj => ((mem j).mp hj).1, fun e => ?_, fun j hj hm => ?_⟩
  · by_cases h : a.l = []
    · exact (clock_nil h).symm
    · obtain ⟨j, h1, h2⟩ := longest_at h
      have := (mem j).mpr ⟨h1, h2⟩
      rw [e] at this
      cases this
  · obtain ⟨h1, h2⟩ := (mem j).mp hj
    rw [List.append_nil]
    refine (clock_at h1 h2 fun k hk z => ?_).symm
    have := hm k ((mem k).mpr ⟨by omega, z⟩)
    omega
theorem cand_next {a : Now} {E cl : List Nat} {j : Nat} (c : Cand a E cl) (hj : j ∈ E) (hm : ∀ k ∈ E, j ≤ k) : Cand a (((List.range a.l.length).filter fun k => a.next k j).filter fun k => decide ((a.long k : Int) = (a.long j : Int) - 1)) (j :: cl) ∧
    ∀ i ∈ ((List.range a.l.length).filter fun k => a.next k j).filter (fun k => decide ((a.long k : Int) = (a.long j : Int) - 1)), a.long i + 1 = a.long j := by
  have hjl := c.lt j hj
  have hrow := c.min j hj hm
  have mem : ∀ i, i ∈ ((List.range a.l.length).filter fun k => a.next k j).filter (fun k => decide ((a.long k : Int) = (a.long j : Int) - 1)) ↔ i < a.l.length ∧ a.next i j = true ∧ a.long i + 1 = a.long j := fun i => by
    rw [List.mem_filter, List.mem_filter, List.mem_range, decide_eq_true_iff]
    constructor
    · rintro ⟨⟨h1, h2⟩, h3⟩
      exact ⟨h1, h2, by omega⟩
    · rintro ⟨h1, h2, h3⟩
      exact ⟨⟨h1, h2⟩, by omega⟩
  refine ⟨⟨fun i hi => ((mem i).mp hi).1, fun e => ?_, fun i hi him => ?_⟩, fun i hi => ((mem i).mp hi).2.2⟩
  · have h1 : a.long j = 1 := by
      have hp := long_pos hjl
      rcases Nat.lt_or_ge 1 (a.long j) with h | h
      · obtain ⟨i, q1, q2, q3⟩ := long_back hjl h
        have := (mem i).mpr ⟨q1, q2, q3⟩
        rw [e] at this
        cases this
      · omega
    rw [rowTo_one hjl h1] at hrow
    exact hrow
  · obtain ⟨h1, h2, h3⟩ := (mem i).mp hi
    have hb : backOf a j = some i := by
      unfold backOf Now.all
      refine find_only h1 (by rw [h2, Bool.true_and]; exact beq_iff_eq.mpr h3) fun k hk => ?_
      cases z : (a.next k j && a.long k + 1 == a.long j) with
      | false => rfl
      | true =>
        rw [Bool.and_eq_true, beq_iff_eq] at z
        have := him k ((mem k).mpr ⟨by omega, z.1, z.2⟩)
        omega
    rw [rowTo_more hjl hb, List.append_assoc] at hrow
    exact hrow
end La
namespace Lw
open PySem PySem.Spec PyProof.Rows L2 Evl LamX
section
variable {K : PySem.W.Frag} {mg : Str → Option Value} {C A P1 P2 P3 : Addr} {σ : L2.St} {H : Hp} {ta tb te : TE}
/-! ### longest_row -/
def sp_longest_row (K : PySem.W.Frag) (C A P1 P2 P3 : Addr) : Sp := fun vs H Q _ => ∃ p es, vs = [.ref p] ∧ PtsAt H p es ∧ es.length ≤ 10 ∧ Tabs (tabsT P1 P2 P3) H ∧ RetI (tabsT P1 P2 P3) (.int ((now es).longest : Nat)) H Q
theorem len_longest_row : ∀ vs H Q E, sp_longest_row K C A P1 P2 P3 vs H Q E → vs.length = 1 := by
  rintro vs H Q E ⟨_, _, rfl, _⟩
  rfl
theorem pure_longest_row (T : Txt K mg C A P1 P2 P3) : ∀ vs H Q E, sp_longest_row K C A P1 P2 P3 vs H Q E → t_longest_row K C A P1 P2 P3 (sp_row_lengths K C A P1 P2 P3) { nx := fun _ H' => Q .non H', rt := Q } (start N_longest_row vs) H := by
  rintro vs H Q E ⟨p, es, rfl, hp, hle, hT, r⟩
  refine ⟨_, rfl, p, es, rfl, hp, hle, hT, fun q H2 xN hT2 hq => ?_⟩
  rw [nums_eq] at hq
  refine ⟨q, _, 0, rfl, rfl, sq_of hq, ?_⟩
  rw [topD_top]
  exact r H2 xN hT2
/-! ### clock_of -/
def sp_clock_of (K : PySem.W.Frag) (C A P1 P2 P3 : Addr) : Sp := fun vs H Q _ => ∃ p es, vs = [.ref p] ∧ PtsAt H p es ∧ es.length ≤ 10 ∧ Tabs (tabsT P1 P2 P3) H ∧ RetN (tabsT P1 P2 P3) (nums (now es).clock) H Q
theorem len_clock_of : ∀ vs H Q E, sp_clock_of K C A P1 P2 P3 vs H Q E → vs.length = 1 := by
  rintro vs H Q E ⟨_, _, rfl, _⟩
  rfl
theorem ev_max1 {p : Addr} {ns : List Int} {M : Int} (h : Ev te σ H (.ref p)) (hp : H p = some (.lst (ns.map V.int))) (h0 : 0 < ns.length) (h1 : M ∈ ns) (h2 : ∀ y ∈ ns, y ≤ M) : Ev (tCB (L2.rMax K) (tCons te tNil)) σ H (.int M) := fun H1 e Q q =>
  h H1 e _ fun H2 e2 => ⟨p, ns, rfl, sq_of (e2 _ _ (e _ _ hp)), h0, fun m hm hle => by
    have e1 := hle M h1
    have e3 := h2 m hm
    have : m = M := by omega
    rw [this]
    exact q H2 e2⟩
theorem et_tru {p : Addr} {xs : List V} (h : Ev te σ H (.ref p)) (hp : H p = some (.lst xs)) : EvT (Lk.tTru K te) σ H (!xs.isEmpty) := fun H1 e Q q =>
  h H1 e _ fun H2 e2 => ⟨!xs.isEmpty, .inl ⟨xs, sq_of (e2 _ _ (e _ _ hp)), rfl⟩, q H2 e2⟩
theorem nums_empty (l : List Nat) : (nums l).isEmpty = l.isEmpty := by
  cases l <;> rfl
theorem longs_at {es : List Evt} {k : Nat} (h : k < es.length) : (nums ((List.range es.length).map (now es).long))[k]? = some (V.int ((now es).long k : Nat)) := by
  unfold nums
  rw [List.getElem?_map, List.getElem?_map, List.getElem?_range h]
  rfl
theorem pure_clock_of (T : Txt K mg C A P1 P2 P3) : ∀ vs H Q E, sp_clock_of K C A P1 P2 P3 vs H Q E → t_clock_of K C A P1 P2 P3 (sp_row_lengths K C A P1 P2 P3) (sp_may_go_on K C A P1 P2 P3) { nx := fun _ H' => Q .non H', rt := Q } (start N_clock_of vs) H := by
  rintro vs H Q E ⟨p, es, rfl, hp, hle, hT, r⟩
  -- lengths = row_lengths(points)
  refine ⟨_, rfl, p, es, rfl, hp, hle, hT, fun L H1 xN hT1 hL => ?_⟩
  have hp1 := hp.extN xN
  have hL' := hL
  rw [nums_eq] at hL'
  have ev_len : ∀ {τ : L2.St} {H2 : Hp} {tx : TE} {k : Nat}, τ[1]? = some (some (.ref L)) → Ex H1 H2 → k < es.length → Ev tx τ H2 (.int (k : Int)) → Ev (tOp (rIxL K) (tVar 1) tx) τ H2 (.int ((now es).long k : Nat)) := fun h x hk hx =>
    ev_op (ev_var h) hx (rv_ixL (sq_of (x _ _ hL)) (at_of rfl (longs_at hk)))
  show tSeq _ _ _ [some (.ref p), some (.ref L), none, none, none, none, none, none] H1
  -- ends = [i for i in range(len(points)) if lengths[i] == max(lengths)]
  refine q_asgL (xs := nums ((List.range es.length).filter fun i => decide (((now es).long i : Int) = ((now es).longest : Int)))) (el_is (el_lcR1 (n := (es.length : Int)) (fun i => decide (((now es).long i : Int) = ((now es).longest : Int))) (fun i => V.int (i : Nat)) (ea_cons (ev_lenP hp1 (ev_var rfl)) ea_nil) ⟨by omega, by omega⟩ (fun _ => rfl) ?_ ?_) ?_) fun pE H2 hE x2 h2 => ?_
  · intro i H2 x2 hi
    have hi' : i < es.length := by omega
    refine et_test (ev_eqI (ev_len rfl x2 hi' (ev_var rfl)) (ev_max1 (ns := ((List.range es.length).map (now es).long).map fun n : Nat => (n : Int)) (ev_var rfl) (x2 _ _ hL') ?_ ?_ ?_))
    · rw [List.length_map, List.length_map, List.length_range]
      omega
    · have hne : (now es).l ≠ [] := fun z => by
        have : es = [] := z
        rw [this] at hi'
        cases hi'
      obtain ⟨j, h1, h2⟩ := La.longest_at hne
      exact List.mem_map.mpr ⟨_, List.mem_map.mpr ⟨j, List.mem_range.mpr h1, rfl⟩, by rw [h2]⟩
    · intro y hy
      obtain ⟨n, hn, rfl⟩ := List.mem_map.mp hy
      obtain ⟨j, hj, rfl⟩ := List.mem_map.mp hn
      have := La.long_le_longest (a := now es) (List.mem_range.mp hj)
      show ((now es).long j : Int) ≤ _
      omega
  · intro i H2 x2 hi _
    exact ev_var rfl
  · rfl
  -- clock = []
  refine q_asgL (xs := nums []) (el_lst ea_nil (by show 0 ≤ 100000; decide)) fun pC H3 hC x3 h3 => ?_
  refine q_while (fun m σ' H' => ∃ (pE pC : Addr) (E' cl : List Nat) (o4 o5 : Option V), σ' = [some (.ref p), some (.ref L), some (.ref pE), some (.ref pC), o4, o5, none, none] ∧ Ex H1 H' ∧ H' pE = some (.lst (nums E')) ∧ H' pC = some (.lst (nums cl)) ∧ La.Cand (now es) E' cl ∧ cl.length + m ≤ 100 ∧ E'.length ≤ 10 ∧ ∀ j ∈ E', (now es).long j ≤ m)
    es.length ⟨pE, pC, _, [], none, none, rfl, x2.trans x3, x3 _ _ h2, h3, La.cand_start (now es), by show 0 + es.length ≤ 100; omega, ?_, fun j hj => ?_⟩ ?_
  · have := List.length_filter_le (fun i => decide (((now es).long i : Int) = ((now es).longest : Int))) (List.range es.length)
    rw [List.length_range] at this
    omega
  · exact La.long_le (List.mem_range.mp (List.mem_filter.mp hj).1)
  rintro m σ' H' ⟨pE, pC, E', cl, o4, o5, rfl, x, hE, hC, cd, hcl, hEl, hlong⟩
  refine ⟨!E'.isEmpty, et_is (et_tru (ev_var rfl) hE) (by rw [nums_empty]), fun hb H4 x4 => ?_, fun hb H4 x4 => ?_⟩
  · have hne : E' ≠ [] := fun z => by
      rw [z] at hb
      cases hb
    refine ⟨fun σ2 H2 => ∃ m', m' < m ∧ ∃ (pE pC : Addr) (E' cl : List Nat) (o4 o5 : Option V), σ2 = [some (.ref p), some (.ref L), some (.ref pE), some (.ref pC), o4, o5, none, none] ∧ Ex H1 H2 ∧ H2 pE = some (.lst (nums E')) ∧ H2 pC = some (.lst (nums cl)) ∧ La.Cand (now es) E' cl ∧ cl.length + m' ≤ 100 ∧ E'.length ≤ 10 ∧ ∀ j ∈ E', (now es).long j ≤ m', fun _ _ h => h, ?_⟩
    have xx := x.trans x4
    have hE4 := x4 _ _ hE
    rw [nums_eq] at hE4
    -- last = min(ends)
    refine ⟨_, rfl, pE, E'.map fun n : Nat => (n : Int), rfl, sq_of hE4, ?_, fun mm hmm hmin => ?_⟩
    · rw [List.length_map]
      exact List.length_pos_iff.mpr hne
    obtain ⟨j, hj, rfl⟩ := List.mem_map.mp hmm
    have hjm : ∀ k ∈ E', j ≤ k := fun k hk => by
      have := hmin (k : Int) (List.mem_map.mpr ⟨k, hk, rfl⟩)
      have h2 : (j : Int) ≤ (k : Int) := this
      omega
    have hjl : j < es.length := cd.lt j hj
    obtain ⟨cd', hback⟩ := La.cand_next cd hj hjm
    have hlj := hlong j hj
    have hpos := La.long_pos (a := now es) hjl
    show tSeq _ _ _ [some (.ref p), some (.ref L), some (.ref pE), some (.ref pC), some (.int (j : Int)), o5, none, none] H4
    -- clock = [last] + clock
    refine q_asgL (xs := nums (j :: cl)) (el_is (el_catN (el_lst (ea_cons (ev_var rfl) ea_nil) (by show 1 ≤ 100000; decide)) (ev_var rfl) (x4 _ _ hC) ?_) rfl) fun pC' H5 hC' x5 h5 => ?_
    · unfold nums
      rw [List.length_map]
      show 1 + cl.length ≤ 100000
      omega
    -- before = [k for k in range(len(points)) if may_go_on(points, k, last)]
    have xx5 := xx.trans x5
    refine q_asgL (xs := nums ((List.range es.length).filter fun k => (now es).next k j)) (el_is (el_lcR1 (n := (es.length : Int)) (fun k => (now es).next k j) (fun k => V.int (k : Nat)) (ea_cons (ev_lenP (hp1.ex xx5) (ev_var rfl)) ea_nil) ⟨by omega, by omega⟩ (fun _ => rfl) ?_ ?_) rfl) fun pB H6 hB x6 h6 => ?_
    · intro k H6 x6 hk
      exact et_B (ev_callN (ea_cons (ev_var rfl) (ea_cons (ev_var rfl) (ea_cons (ev_var rfl) ea_nil))) (spv_go (hp1.ex (xx5.trans x6)) (by omega) hjl))
    · intro k H6 x6 hk _
      exact ev_var rfl
    -- ends = [k for k in before if lengths[k] == lengths[last] - 1]
    have xx6 := xx5.trans x6
    generalize hbe : (List.range es.length).filter (fun k => (now es).next k j) = be at h6
    have hbl : be.length ≤ es.length := by
      rw [← hbe]
      have := List.length_filter_le (fun k => (now es).next k j) (List.range es.length)
      rw [List.length_range] at this
      exact this
    have hbm : ∀ k ∈ be, k < es.length := fun k hk => by
      rw [← hbe] at hk
      exact List.mem_range.mp (List.mem_filter.mp hk).1
    have hget : ∀ (i : Nat) (x : V), (nums be)[i]? = some x → x = .int (be.getD i 0 : Nat) ∧ be.getD i 0 < es.length := fun i x hx => by
      have hi : i < be.length := by
        have := (List.getElem?_eq_some_iff.mp hx).1
        unfold nums at this
        rw [List.length_map] at this
        exact this
      rw [nums_at hi] at hx
      refine ⟨(Option.some.inj hx).symm, hbm _ ?_⟩
      rw [List.getD_eq_getElem?_getD, List.getElem?_eq_getElem hi]
      exact List.getElem_mem hi
    refine s_asgL (xs := nums (be.filter fun k => decide (((now es).long k : Int) = ((now es).long j : Int) - 1))) (el_is (el_lcL (fun i => decide (((now es).long (be.getD i 0) : Int) = ((now es).long j : Int) - 1)) (fun i => V.int (be.getD i 0 : Nat)) (ev_var rfl) (sq_of h6) ?_ (fun _ => rfl) ?_ ?_) ?_) fun pE' H7 hE' x7 h7 => ?_
    · unfold nums
      rw [List.length_map]
      omega
    · intro i x H7 x7 hx
      obtain ⟨rfl, hk⟩ := hget i x hx
      exact et_test (ev_eqI (ev_len rfl (xx6.trans x7) hk (ev_var rfl)) (ev_op (ev_len rfl (xx6.trans x7) hjl (ev_var rfl)) ev_c rv_I0))
    · intro i x H7 x7 hx _
      obtain ⟨rfl, hk⟩ := hget i x hx
      exact ev_var rfl
    · have hnl : (nums be).length = be.length := by
        unfold nums
        rw [List.length_map]
      rw [hnl, given_filter 0 be (fun k => decide (((now es).long k : Int) = ((now es).long j : Int) - 1)) (fun k => V.int (k : Nat))]
    have hcd : La.Cand (now es) (be.filter fun k => decide (((now es).long k : Int) = ((now es).long j : Int) - 1)) (j :: cl) := by
      rw [← hbe]
      exact cd'
    refine ⟨m - 1, by omega, pE', pC', _, j :: cl, _, _, rfl, xx6.trans x7, h7, x7 _ _ (x6 _ _ h5), hcd, by rw [List.length_cons]; omega, ?_, fun i hi => ?_⟩
    · have := List.length_filter_le (fun k => decide (((now es).long k : Int) = ((now es).long j : Int) - 1)) be
      omega
    · rw [← hbe] at hi
      have := hback i hi
      omega
  · have hE0 : E' = [] := by
      cases E' with
      | nil => rfl
      | cons x r => cases hb
    rw [cd.nil hE0] at hC
    exact s_ret (ev_var rfl) fun H5 x5 => r pC H5 (xN.trans (ExtN.of ((x.trans x4).trans x5))) (hT1.ext ((x.trans x4).trans x5)) (x5 _ _ (x4 _ _ hC))
end
end Lw

set_option Elab.async false
set_option linter.all false
set_option autoImplicit false
set_option maxRecDepth 100000
set_option maxHeartbeats 4000000
namespace La
open Kv413
/-- the counts, one after another -/
def cntL (ev : Nat → Event) : Nat → List Nat
  | 0 => []
  | m + 1 => cntL ev m ++ [1 + top (((List.range m).filter fun q => decide (Below (ev q) (ev m))).map fun q => (cntL ev m).getD q 0)]
theorem cntL_len (ev : Nat → Event) : ∀ m, (cntL ev m).length = m
  | 0 => rfl
  | m + 1 => by
    show (cntL ev m ++ [_]).length = _
    rw [List.length_append, cntL_len ev m]
    rfl
def cntF (ev : Nat → Event) (p : Nat) : Nat := (cntL ev (p + 1)).getD p 0
theorem cntL_get (ev : Nat → Event) : ∀ (m q : Nat), q < m → (cntL ev m).getD q 0 = cntF ev q
  | 0, q, h => by omega
  | m + 1, q, h => by
    by_cases e : q = m
    · rw [e]
      rfl
    · have hq : q < m := by omega
      rw [← cntL_get ev m q hq]
      show (cntL ev m ++ [_]).getD q 0 = _
      rw [List.getD_eq_getElem?_getD, List.getElem?_append_left (by rw [cntL_len]; exact hq), List.getD_eq_getElem?_getD]
theorem cntL_counts (ev : Nat → Event) (n : Nat) : Counts ev n (cntF ev) := by
  refine ⟨fun p _ => ?_⟩
  have e : cntF ev p = 1 + top (((List.range p).filter fun q => decide (Below (ev q) (ev p))).map fun q => (cntL ev p).getD q 0) := by
    show (cntL ev p ++ [_]).getD p 0 = _
    rw [List.getD_eq_getElem?_getD, List.getElem?_append_right (by rw [cntL_len]; exact Nat.le_refl _), cntL_len, Nat.sub_self]
    rfl
  rw [e]
  congr 2
  refine List.map_congr_left fun q hq => ?_
  exact cntL_get ev p q (List.mem_range.mp (List.mem_filter.mp hq).1)
theorem cntL_all (ev : Nat → Event) (n : Nat) : cntL ev n = (List.range n).map (cntF ev) := by
  refine List.ext_getElem? fun q => ?_
  by_cases h : q < n
  · have h1 := cntL_get ev n q h
    have hl : q < (cntL ev n).length := by rw [cntL_len]; exact h
    rw [List.getElem?_map, List.getElem?_range h, List.getElem?_eq_getElem hl]
    rw [List.getD_eq_getElem?_getD, List.getElem?_eq_getElem hl] at h1
    show some _ = some _
    rw [← h1]
    rfl
  · rw [List.getElem?_eq_none (by rw [cntL_len]; omega), List.getElem?_eq_none (by rw [List.length_map, List.length_range]; omega)]
end La
namespace Lw
open PySem PySem.Spec PyProof.Rows L2 Evl LamX
section
variable {K : PySem.W.Frag} {mg : Str → Option Value} {C A P1 P2 P3 : Addr} {σ : L2.St} {H : Hp} {ta tb te : TE} {D : Ends} {tu tz : TS}
/-- for i, x in enumerate(xs) -/
theorem q_forE {p : Addr} {xs : List V} {i j : Nat} (h : Ev ta σ H (.ref p)) (hx : SqL K H p xs) (Pv : Nat → L2.St → Hp → Prop) (h0 : ∀ H1, Ex H H1 → Pv 0 σ H1) (hl : ∀ m σ' H', m ≤ xs.length → Pv m σ' H' → SqL K H' p xs)
    (hs : ∀ m x σ' H', xs[m]? = some x → Pv m σ' H' → ∀ H1, Ex H' H1 → tu { D with nx := Pv (m + 1), ct := Pv (m + 1), bk := tz D } ((σ'.set i (some (.int (m : Int)))).set j (some x)) H1) (hd : ∀ σ' H', Pv xs.length σ' H' → tz D σ' H') :
    tSeq (tFor (iEnum K (tCons ta tNil)) (gTup K 2 (gCons (gName i) (gCons (gName j) gNil))) tu) tz D σ H :=
  h H (Ex.refl H) _ fun H1 e => ⟨p, xs, rfl, ex_l e hx, fun m k σ' H' => k = xs.length - m ∧ m ≤ xs.length ∧ Pv m σ' H', ⟨xs.length, by simp, Nat.zero_le _, h0 H1 e⟩, by
    rintro m k σ' H' ⟨rfl, hm, q⟩
    have hq := hl m σ' H' hm q
    by_cases hlt : m < xs.length
    · refine .inr ⟨⟨xs, xs[m], hq, by simp [hlt]⟩, Pv (m + 1), fun σ2 H2 p' => ⟨xs.length - (m + 1), by omega, rfl, hlt, p'⟩, ?_⟩
      rintro x H2 ⟨Tq, y, rfl, hT, rfl, hy⟩
      refine ⟨Tq, _, rfl, st_of upd_same, rfl, _, _, rfl, _, _, rfl, rfl, ?_⟩
      exact hs m y σ' H' (hy xs hq) q _ (Ex.new hT)
    · have e : m = xs.length := by omega
      subst e
      exact .inl ⟨⟨xs, hq, Nat.le_refl _⟩, hd σ' H' q⟩⟩
/-! ### most_apart -/
def sp_most_apart (K : PySem.W.Frag) (C A P1 P2 P3 : Addr) : Sp := fun vs H Q _ => ∃ p es, vs = [.ref p] ∧ PtsAt H p es ∧ es.length ≤ 10 ∧ Tabs (tabsT P1 P2 P3) H ∧ RetI (tabsT P1 P2 P3) (.int ((now es).most : Nat)) H Q
theorem len_most_apart : ∀ vs H Q E, sp_most_apart K C A P1 P2 P3 vs H Q E → vs.length = 1 := by
  rintro vs H Q E ⟨_, _, rfl, _⟩
  rfl
theorem belowB_eq (e f : Evt) : belowB e f = decide (La.Below e f) := by
  unfold belowB
  by_cases h : La.Below e f
  · rw [decide_eq_true h]
    exact decide_eq_true (show (if f.t - e.t < 0 then -(f.t - e.t) else f.t - e.t) < f.x - e.x from h)
  · rw [decide_eq_false h]
    exact decide_eq_false (show ¬ (if f.t - e.t < 0 then -(f.t - e.t) else f.t - e.t) < f.x - e.x from h)
theorem pure_most_apart (T : Txt K mg C A P1 P2 P3) : ∀ vs H Q E, sp_most_apart K C A P1 P2 P3 vs H Q E → t_most_apart K C A P1 P2 P3 (sp_is_apart_below K C A P1 P2 P3) { nx := fun _ H' => Q .non H', rt := Q } (start N_most_apart vs) H := by
  rintro vs H Q E ⟨p, es, rfl, ⟨ws, hp, hev⟩, hle, hT, r⟩
  have hwl := Paired.len hev
  -- rising = sorted(points, key=lambda point: point[1])
  refine ⟨_, rfl, hT, p, ws, false, 1, La.kyX (now es), rfl, .inl (sq_of hp), by omega, fun H2 xN i x hx => ?_, fun D H5 ord hord xN hT5 hfr hD => ?_⟩
  · obtain ⟨e, he, q, rfl, hq⟩ := Paired.at2 (hev.extN xN) hx
    have ee : e = (now es).at_ i := by
      show e = es.getD i ⟨0, 0⟩
      rw [List.getD_eq_getElem?_getD, he]
      rfl
    refine (ev_op (σ := [some (.ref p), none, none, none, some (.ref q), none]) (r := rIxT K) (ta := tVar 4) (tb := tC (.int 1)) (ev_var rfl) ev_c (rv_ixT (st_of hq) rfl) : Ev _ _ H2 (.int e.x)) H2 (Ex.refl H2) _ fun H4 x4 => ⟨x4, rfl, by decide, ?_⟩
    rw [if_neg (by decide)]
    exact ⟨e.x, by rw [ee]; rfl, rfl⟩
  rw [hwl] at hord
  have hord' : Lk.Ord (La.kyX (now es)) (now es).l.length ord := hord
  have hol : ord.length = es.length := by rw [hord.perm.length_eq, List.length_range]
  have hev5 := hev.extN xN
  -- an event of the row
  have ris : ∀ q, q < es.length → ∃ v, (ord.map fun i => ws.getD i .non)[q]? = some v ∧ EvAt H5 v ((now es).at_ (ord.getD q 0)) := fun q hq => by
    have hq' : q < ord.length := by omega
    have hi : ord.getD q 0 < es.length := by
      rw [List.getD_eq_getElem?_getD, List.getElem?_eq_getElem hq']
      exact hord.lt (List.getElem_mem hq')
    have hg : es[ord.getD q 0]? = some ((now es).at_ (ord.getD q 0)) := by
      show _ = some (es.getD (ord.getD q 0) ⟨0, 0⟩)
      rw [List.getD_eq_getElem?_getD (l := es), List.getElem?_eq_getElem hi]
      rfl
    obtain ⟨v, hv, he⟩ := Paired.at hev5 hg
    refine ⟨v, ?_, he⟩
    have e1 : ord[q]? = some (ord.getD q 0) := by
      rw [List.getD_eq_getElem?_getD, List.getElem?_eq_getElem hq']
      rfl
    rw [List.getElem?_map, e1]
    show some (ws.getD (ord.getD q 0) .non) = some v
    rw [List.getD_eq_getElem?_getD (l := ws), hv]
    rfl
  have hrl : (ord.map fun i => ws.getD i V.non).length = es.length := by rw [List.length_map, hol]
  show tSeq _ _ _ [some (.ref p), some (.ref D), none, none, none, none] H5
  -- counts = []
  refine q_asgL (xs := nums []) (el_lst ea_nil (by show 0 ≤ 100000; decide)) fun L H6 hL x6 h6 => ?_
  let ev : Nat → Kv413.Event := fun q => (now es).at_ (ord.getD q 0)
  refine q_forE (i := 3) (j := 4) (ev_var rfl) (sq_of (x6 _ _ hD)) (fun m σ' H' => ∃ o3 o4 : Option V, σ' = [some (.ref p), some (.ref D), some (.ref L), o3, o4, none] ∧ Ex H5 H' ∧ H' L = some (.lst (nums (La.cntL ev m)))) (fun H7 x7 => ⟨none, none, rfl, x6.trans x7, x7 _ _ h6⟩) ?_ ?_ ?_
  · rintro m σ' H' _ ⟨_, _, _, x, _⟩
    exact sq_of (x _ _ hD)
  · rintro m x σ' H' hx ⟨o3, o4, rfl, x8, h8⟩ H9 x9
    have hm : m < es.length := by
      have := (List.getElem?_eq_some_iff.mp hx).1
      omega
    obtain ⟨v, hv, hve⟩ := ris m hm
    rw [hx] at hv
    obtain rfl := Option.some.inj hv
    have xx := x8.trans x9
    have h9 := x9 _ _ h8
    have hcl : (nums (La.cntL ev m)).length = m := by
      unfold nums
      rw [List.length_map, La.cntL_len]
    show tDrop _ _ [some (.ref p), some (.ref D), some (.ref L), some (.int (m : Int)), some x, none] H9
    refine s_app h9 (ev_var rfl) (ev_op ev_c (ev_maxD (ns := (((List.range m).filter fun q => decide (La.Below (ev q) (ev m))).map fun q => (La.cntL ev m).getD q 0).map fun n : Nat => (n : Int)) (el_is (el_lcR1 (n := (m : Int)) (fun q => decide (La.Below (ev q) (ev m))) (fun q => V.int ((La.cntL ev m).getD q 0 : Nat)) (ea_cons (ev_var rfl) ea_nil) ⟨by omega, by omega⟩ (fun _ => rfl) ?_ ?_) ?_)) rv_I0) (by rw [hcl]; omega) fun H10 x10 => ⟨_, _, rfl, Ex.mut (xx.trans x10) hL, ?_⟩
    · intro q H10 x10 hq
      obtain ⟨u, hu, hue⟩ := ris q (by omega)
      rw [← belowB_eq]
      exact et_B (ev_callN (ea_cons (ev_op (ev_var rfl) (ev_var rfl) (rv_ixL (sq_of ((xx.trans x10) _ _ hD)) (at_of rfl hu))) (ea_cons (ev_var rfl) ea_nil)) (spv_below (hue.ex (xx.trans x10)) (hve.ex (xx.trans x10))))
    · intro q H10 x10 hq _
      exact ev_op (ev_var rfl) (ev_var rfl) (rv_ixL (sq_of (x10 _ _ h9)) (at_of rfl (nums_at (by rw [La.cntL_len]; omega))))
    · unfold given
      have e1 : (m : Int).toNat = m := rfl
      rw [e1, List.map_map, List.map_map]
      rfl
    · refine upd_same.trans ?_
      rw [topD_top]
      show some (HO.lst (nums (La.cntL ev m) ++ [V.int (1 + ((La.top _ : Nat) : Int))])) = some (HO.lst (nums (La.cntL ev m ++ [1 + La.top _])))
      unfold nums
      rw [List.map_append]
      rfl
  · rintro σ' H' ⟨o3, o4, rfl, x8, h8⟩
    rw [hrl, La.cntL_all, nums_eq] at h8
    refine s_ret (ev_is (ev_maxDV (ev_var rfl) h8) ?_) fun H9 x9 => r H9 (xN.trans (ExtN.of (x8.trans x9))) (hT5.ext (x8.trans x9))
    rw [topD_top, La.most_counts hord' (La.cntL_counts ev es.length)]
end
end Lw

set_option Elab.async false
set_option linter.all false
set_option autoImplicit false
set_option maxRecDepth 100000
set_option maxHeartbeats 4000000
namespace Lw
open PySem PySem.Spec PyProof.Rows L2 Evl LamX
section
variable {K : PySem.W.Frag} {mg : Str → Option Value} {C A P1 P2 P3 : Addr} {σ : L2.St} {H : Hp} {ta tb te : TE} {D : Ends} {tu tz : TS}
/-! ### clock_to_take -/
def optV : Option Nat → V
  | none => .non
  | some k => .int (k : Nat)
def sp_clock_to_take (K : PySem.W.Frag) (C A P1 P2 P3 : Addr) : Sp := fun vs H Q _ => ∃ p ns, ∃ own : Int, vs = [.ref p, .int own] ∧ H p = some (.lst ((ns : List Int).map V.int)) ∧ RetV (optV (La.takeF ns own ns.length)) H Q
theorem len_clock_to_take : ∀ vs H Q E, sp_clock_to_take K C A P1 P2 P3 vs H Q E → vs.length = 2 := by
  rintro vs H Q E ⟨_, _, _, rfl, _⟩
  rfl
theorem et_isN {x : V} (h : Ev te σ H x) : EvT (tTest (tOp rIsNone te (tC .non))) σ H (decide (x = .non)) := et_test (fun H1 e Q q => h H1 e _ fun H2 e2 => ⟨rfl, q H2 e2⟩)
theorem ints_at {ns : List Int} {m : Nat} (h : m < ns.length) : (ns.map V.int)[m]? = some (.int (ns.getD m 0)) := by
  rw [List.getElem?_map, List.getD_eq_getElem?_getD, List.getElem?_eq_getElem h]
  rfl
theorem pure_clock_to_take (T : Txt K mg C A P1 P2 P3) : ∀ vs H Q E, sp_clock_to_take K C A P1 P2 P3 vs H Q E → t_clock_to_take K C A P1 P2 P3 { nx := fun _ H' => Q .non H', rt := Q } (start N_clock_to_take vs) H := by
  rintro vs H Q E ⟨p, ns, own, rfl, hp, r⟩
  refine q_asg ev_c fun H1 x1 => ?_
  refine q_forE (i := 3) (j := 4) (ev_var rfl) (sq_of (x1 _ _ hp)) (fun m σ' H' => ∃ o3 o4 : Option V, σ' = [some (.ref p), some (.int own), some (optV (La.takeF ns own m)), o3, o4] ∧ Ex H H') (fun H2 x2 => ⟨none, none, rfl, x1.trans x2⟩) ?_ ?_ ?_
  · rintro m σ' H' _ ⟨_, _, _, x⟩
    exact sq_of (x _ _ hp)
  · rintro m x σ' H' hx ⟨o3, o4, rfl, x2⟩ H3 x3
    have hm : m < ns.length := by
      have := (List.getElem?_eq_some_iff.mp hx).1
      rw [List.length_map] at this
      exact this
    rw [ints_at hm] at hx
    obtain rfl := Option.some.inj hx
    have xx := x2.trans x3
    show tIfS _ _ _ _ [some (.ref p), some (.int own), some (optV (La.takeF ns own m)), some (.int (m : Int)), some (.int (ns.getD m 0))] H3
    have et : La.takeF ns own (m + 1) = if ns.getD m 0 ≤ own ∧ (La.takeF ns own m = none ∨ ns.getD ((La.takeF ns own m).getD 0) 0 < ns.getD m 0) then some m else La.takeF ns own m := rfl
    have hor : EvT (tOr (tTest (tOp rIsNone (tVar 2) (tC .non))) (tTest (tOp rGt (tVar 4) (tOp (rIxL K) (tVar 0) (tVar 2))))) [some (.ref p), some (.int own), some (optV (La.takeF ns own m)), some (.int (m : Int)), some (.int (ns.getD m 0))] H3 (decide (La.takeF ns own m = none ∨ ns.getD ((La.takeF ns own m).getD 0) 0 < ns.getD m 0)) := by
      cases ht : La.takeF ns own m with
      | none =>
        refine et_is (et_or (b := true) (et_isN (ev_var rfl)) (fun z => ?_)) ?_
        · cases z
        · rw [Bool.or_true]
          exact (decide_eq_true (.inl rfl)).symm
      | some k =>
        have hk : k < ns.length := by
          have := La.takeF_lt ns own ht
          omega
        refine et_is (et_or (b := decide (ns.getD k 0 < ns.getD m 0)) (et_isN (ev_var rfl)) (fun _ => et_test (ev_op (ev_var rfl) (ev_op (ev_var rfl) (ev_var rfl) (rv_ixL (sq_of (xx _ _ hp)) (at_of rfl (ints_at hk)))) rv_I0))) ?_
        show decide (ns.getD k 0 < ns.getD m 0) = decide (some k = none ∨ ns.getD k 0 < ns.getD m 0)
        by_cases z : ns.getD k 0 < ns.getD m 0
        · rw [decide_eq_true z, decide_eq_true (.inr z)]
        · rw [decide_eq_false z, decide_eq_false]
          rintro (q | q)
          · cases q
          · exact z q
    refine s_when (et_and (et_test (ev_op (ev_var rfl) (ev_var rfl) rv_I0)) fun _ => hor) (fun hb H4 x4 => ?_) (fun hb H4 x4 => ?_)
    · rw [Bool.and_eq_true] at hb
      have h1 := of_decide_eq_true hb.1
      have h2 := of_decide_eq_true hb.2
      rw [if_pos ⟨h1, h2⟩] at et
      refine s_asg (ev_var rfl) fun H5 x5 => ⟨some (.int (m : Int)), some (.int (ns.getD m 0)), ?_, (xx.trans x4).trans x5⟩
      rw [et]
      rfl
    · rw [Bool.and_eq_false_iff] at hb
      rw [if_neg (fun z => by
        rcases hb with hb | hb
        · exact of_decide_eq_false hb z.1
        · exact of_decide_eq_false hb z.2)] at et
      refine ⟨some (.int (m : Int)), some (.int (ns.getD m 0)), ?_, xx.trans x4⟩
      rw [et]
  · rintro σ' H' ⟨o3, o4, rfl, x2⟩
    rw [List.length_map]
    exact s_ret (ev_var rfl) fun H3 x3 => r.go (x2.trans x3)

/-! ### clocks_for_all -/
/-- lists of numbers, each a list of its own -/
abbrev Lists (H : Hp) : List V → List (List Nat) → Prop := Paired (fun v l => ∃ q, v = .ref q ∧ H q = some (.lst (nums l)))
theorem Lists.ex {H H' : Hp} {vs : List V} {c : List (List Nat)} (x : Ex H H') (h : Lists H vs c) : Lists H' vs c := Paired.to (fun _ _ ⟨q, a, b⟩ => ⟨q, a, x _ _ b⟩) h
theorem Lists.put {H : Hp} {l : Addr} {u : HO} {vs : List V} {c : List (List Nat)} (hn : ∀ v ∈ vs, v ≠ .ref l) (h : Lists H vs c) : Lists (upd H l u) vs c := by
  induction h with
  | nil => exact .nil
  | cons a b ih =>
    obtain ⟨q, rfl, hq⟩ := a
    refine .cons ⟨q, rfl, ?_⟩ (ih fun v hv => hn v (List.mem_cons_of_mem _ hv))
    rw [upd_ne (fun z => hn _ (List.mem_cons_self ..) (by rw [z]))]
    exact hq
theorem Lists.set {H : Hp} {l : Addr} {ys : List Nat} : ∀ {vs : List V} {c : List (List Nat)} {k : Nat}, Lists H vs c → vs.Nodup → vs[k]? = some (.ref l) → Lists (upd H l (.lst (nums ys))) vs (c.set k ys)
  | _, _, _, .nil, _, h => by simp at h
  | v :: vs, x :: c, 0, .cons a b, nd, h => by
    have e : v = .ref l := Option.some.inj h
    subst e
    obtain ⟨n1, n2⟩ := List.nodup_cons.mp nd
    exact .cons ⟨l, rfl, upd_same⟩ (Lists.put (fun w hw z => n1 (by rw [← z]; exact hw)) b)
  | v :: vs, x :: c, k + 1, .cons a b, nd, h => by
    obtain ⟨n1, n2⟩ := List.nodup_cons.mp nd
    obtain ⟨q, rfl, hq⟩ := a
    have hm : V.ref l ∈ vs := List.mem_of_getElem? (show vs[k]? = some (V.ref l) from h)
    refine .cons ⟨q, rfl, ?_⟩ (Lists.set b n2 h)
    rw [upd_ne (fun z => n1 (by rw [z]; exact hm))]
    exact hq
def RetC (T : List (Addr × Str)) (c : List (List Nat)) (H : Hp) (Q : VK) : Prop := ∀ q vs H2, ExtN H H2 → Tabs T H2 → H2 q = some (.lst vs) → Lists H2 vs c → Q (.ref q) H2
def sp_clocks_for_all (K : PySem.W.Frag) (C A P1 P2 P3 : Addr) : Sp := fun vs H Q _ => ∃ p es, vs = [.ref p] ∧ PtsAt H p es ∧ es.length ≤ 10 ∧ Tabs (tabsT P1 P2 P3) H ∧ RetC (tabsT P1 P2 P3) (now es).clocks H Q
theorem len_clocks_for_all : ∀ vs H Q E, sp_clocks_for_all K C A P1 P2 P3 vs H Q E → vs.length = 1 := by
  rintro vs H Q E ⟨_, _, rfl, _⟩
  rfl
theorem last_at {l : List Nat} (h : l ≠ []) : atI (nums l) (-1) = some (V.int (l.getLast?.getD 0 : Nat)) ∧ l.getLast?.getD 0 ∈ l := by
  have hp : 0 < l.length := List.length_pos_iff.mpr h
  have e1 : l.getLast?.getD 0 = l[l.length - 1] := by
    rw [List.getLast?_eq_getElem?, List.getElem?_eq_getElem (by omega)]
    rfl
  constructor
  · unfold atI ixN
    have hl : (nums l).length = l.length := by
      unfold nums
      rw [List.length_map]
    rw [if_neg (by decide), hl, if_pos (by omega)]
    show (nums l)[((-1 : Int) + (l.length : Int)).toNat]? = _
    have e2 : ((-1 : Int) + (l.length : Int)).toNat = l.length - 1 := by omega
    rw [e2, nums_at (by omega), List.getD_eq_getElem?_getD, List.getElem?_eq_getElem (by omega), e1]
    rfl
  · rw [e1]
    exact List.getElem_mem (by omega)
theorem spv_take {p : Addr} {ns : List Int} {own : Int} (hp : H p = some (.lst (ns.map V.int))) : SpV (sp_clock_to_take K C A P1 P2 P3) [.ref p, .int own] H (optV (La.takeF ns own ns.length)) := fun H1 x Q q E => ⟨p, ns, own, rfl, x _ _ hp, q⟩
theorem pure_clocks_for_all (T : Txt K mg C A P1 P2 P3) : ∀ vs H Q E, sp_clocks_for_all K C A P1 P2 P3 vs H Q E → t_clocks_for_all K C A P1 P2 P3 (sp_time_and_place K C A P1 P2 P3) (sp_time_less_place K C A P1 P2 P3) (sp_clock_to_take K C A P1 P2 P3) { nx := fun _ H' => Q .non H', rt := Q } (start N_clocks_for_all vs) H := by
  rintro vs H Q E ⟨p, es, rfl, hp, hle, hT, r⟩
  -- order = sorted(range(len(points)), key=..)
  refine ev_lenP (σ := [some (.ref p), none, none, none, none, none, none, none]) hp (ev_var rfl) H (Ex.refl H) _ fun H2 x2 => ⟨(es.length : Int), rfl, fun q hq => ?_⟩
  have x2' := x2.trans (Ex.new (o := .rng 0 (es.length : Int)) hq)
  refine ⟨hT.ext x2', q, rgV 0 (es.length : Int), true, 3, La.kyL (now es), rfl, .inr ⟨es.length, by omega, upd_same, rfl⟩, by rw [rgV_length]; omega, fun H3 xN i x hx => ?_, fun D H5 ord hord xN hT5 hfr hD => ?_⟩
  · obtain ⟨hi, rfl⟩ := rg_at hx
    have hp3 := (hp.ex x2').extN xN
    obtain ⟨v, hv, ev⟩ := ev_ixP (K := K) (σ := [some (.ref p), none, none, none, none, none, some (.int (i : Int)), none]) (ta := tVar 0) (tb := tVar 6) hp3 (ev_var rfl) (ev_var rfl) (by omega) (by omega)
    refine eu_tup (σ := [some (.ref p), none, none, none, none, none, some (.int (i : Int)), none]) (ea_cons (ev_callN (ea_cons ev ea_nil) (spv_less hv)) (ea_cons (ev_callN (ea_cons ev ea_nil) (spv_both hv)) (ea_cons (ev_var rfl) ea_nil))) (by show 3 ≤ 100000; decide) H3 (Ex.refl H3) _ fun u H4 hu x4 h4 => ⟨x4, rfl, by decide, ?_⟩
    rw [if_pos rfl]
    exact ⟨u, rfl, h4⟩
  rw [rgV_length] at hord
  have en : ((es.length : Int) - 0).toNat = es.length := by omega
  rw [en] at hord
  have hord' : Lk.Ord (La.kyL (now es)) (now es).l.length ord := hord
  rw [rg_pick (fun i hi => hord.lt hi)] at hD
  have hol : ord.length = es.length := by rw [hord.perm.length_eq, List.length_range]
  have xH5 : ExtN H H5 := (ExtN.of x2').trans xN
  have hp5 := hp.extN xH5
  show tSeq _ _ _ [some (.ref p), some (.ref D), none, none, none, none, none, none] H5
  -- clocks = []
  refine q_asgL (xs := []) (el_lst ea_nil (by show 0 ≤ 100000; decide)) fun L H6 hL x6 h6 => ?_
  refine q_forLn (xs := nums ord) (ev_var rfl) (sq_of (x6 _ _ hD)) (fun m σ' H' => ∃ (o3 o4 o5 : Option V) (ws : List V), σ' = [some (.ref p), some (.ref D), some (.ref L), o3, o4, o5, none, none] ∧ Ex H5 H' ∧ H' L = some (.lst ws) ∧ Lists H' ws ((ord.take m).foldl (now es).put []) ∧ La.Laid es.length m ((ord.take m).foldl (now es).put []) ∧ ws.Nodup ∧ (∀ v ∈ ws, v ≠ .ref L) ∧ ∀ q, V.ref q ∈ ws → H5 q = none)
    (fun H7 x7 => ⟨none, none, none, [], rfl, x6.trans x7, x7 _ _ h6, .nil, La.laid_nil _, List.nodup_nil, (fun v hv => by cases hv), (fun q hv => by cases hv)⟩) ?_ ?_ ?_
  · rintro m σ' H' _ ⟨_, _, _, _, _, x, _⟩
    exact sq_of (x _ _ hD)
  · rintro m x σ' H' hx ⟨o3, o4, o5, ws, rfl, x7, h7, hli, hla, nd, hnL, hfr5⟩
    have hm : m < ord.length := by
      have := (List.getElem?_eq_some_iff.mp hx).1
      unfold nums at this
      rw [List.length_map] at this
      exact this
    rw [nums_at hm] at hx
    obtain rfl := Option.some.inj hx
    have hmi : ord[m]? = some (ord.getD m 0) := by
      rw [List.getD_eq_getElem?_getD, List.getElem?_eq_getElem hm]
      rfl
    generalize ord.getD m 0 = i at hmi
    have hi : i < es.length := hord.lt (List.mem_of_getElem? hmi)
    have tk : ord.take (m + 1) = ord.take m ++ [i] := by
      rw [List.take_succ, hmi]
      rfl
    have fold1 : (ord.take (m + 1)).foldl (now es).put [] = (now es).put ((ord.take m).foldl (now es).put []) i := by
      rw [tk, List.foldl_append]
      rfl
    generalize hc : (ord.take m).foldl (now es).put [] = c at hli hla fold1
    have hcl := Paired.len hli
    have hcm : c.length ≤ 10 := by
      have := hla.few
      omega
    have hp7 := hp5.ex x7
    show tSeq _ _ _ [some (.ref p), some (.ref D), some (.ref L), some (.int (i : Int)), o4, o5, none, none] H'
    -- lasts = [..]
    refine q_asgL (xs := (c.map (La.lastV (now es))).map V.int) (el_is (el_lcL (K := K) (fun _ => true) (fun k => V.int (La.lastV (now es) (c.getD k []))) (ev_var rfl) (sq_of h7) (by omega) (fun _ => rfl) (fun k x H8 x8 hx H9 x9 Q q => q H9 (Ex.refl H9)) ?_) ?_) fun pl H8 hpl x8 h8 => ?_
    · intro k x H8 x8 hx _
      obtain ⟨l, hl, q, rfl, hq⟩ := Paired.at2 hli hx
      have hlc : l ∈ c := List.mem_of_getElem? hl
      have el : c.getD k [] = l := by
        rw [List.getD_eq_getElem?_getD, hl]
        rfl
      rw [el]
      obtain ⟨at1, at2⟩ := last_at (hla.full l hlc)
      have hlast := hla.lt l hlc _ at2
      obtain ⟨v, hv, ev⟩ := ev_ixP (K := K) (σ := [some (.ref p), some (.ref D), some (.ref L), some (.int (i : Int)), o4, o5, none, some (.ref q)]) (ta := tVar 0) (tb := tOp (rIxL K) (tVar 7) (tUn rNeg (tC (.int 1)))) (i := ((l.getLast?.getD 0 : Nat) : Int)) (hp7.ex x8) (ev_var rfl) (ev_op (ev_var rfl) (ev_un ev_c ru_neg) (rv_ixL (sq_of (x8 _ _ hq)) at1)) (by omega) (by omega)
      exact ev_callN (ea_cons ev ea_nil) (spv_both hv)
    · unfold given
      have hf : (List.range ws.length).filter (fun _ => true) = List.range ws.length := List.filter_eq_self.mpr fun _ _ => rfl
      rw [hf, hcl, List.map_map]
      refine List.ext_getElem? fun k => ?_
      by_cases hk : k < c.length
      · rw [List.getElem?_map, List.getElem?_range hk, List.getElem?_map, List.getElem?_eq_getElem hk]
        show some (V.int (La.lastV (now es) (c.getD k []))) = some (V.int (La.lastV (now es) c[k]))
        rw [List.getD_eq_getElem?_getD, List.getElem?_eq_getElem hk]
        rfl
      · rw [List.getElem?_eq_none (by rw [List.length_map, List.length_range]; omega), List.getElem?_eq_none (by rw [List.length_map]; omega)]
    -- taken = clock_to_take(lasts, time_and_place(points[i]))
    obtain ⟨v, hv, ev⟩ := ev_ixP (K := K) (σ := [some (.ref p), some (.ref D), some (.ref L), some (.int (i : Int)), some (.ref pl), o5, none, none]) (ta := tVar 0) (tb := tVar 3) (i := (i : Int)) (hp7.ex x8) (ev_var rfl) (ev_var rfl) (by omega) (by omega)
    refine q_asg (ev_callN (ea_cons (ev_var rfl) (ea_cons (ev_callN (ea_cons ev ea_nil) (spv_both hv)) ea_nil)) (spv_take h8)) fun H9 x9 => ?_
    have eo : atE es (i : Int) = (now es).at_ i := rfl
    rw [eo, List.length_map]
    have hput := La.put_take (now es) c i
    have hla' := La.laid_put (a := now es) hla hi
    have xx := (x7.trans x8).trans x9
    have h79 := (x8.trans x9)
    have hL9 := h79 _ _ h7
    have hli9 := hli.ex h79
    cases ht : La.takeF (c.map (La.lastV (now es))) ((now es).at_ i).v c.length with
    | none =>
      rw [ht] at hput
      refine s_if (et_isN (ev_var rfl)) (fun hb H10 x10 => ?_) (fun hb H10 x10 => by cases hb)
      refine s_appL (ys := nums [i]) (x10 _ _ hL9) (ev_var rfl) (el_lst (ea_cons (ev_var rfl) ea_nil) (by show 1 ≤ 100000; decide)) (by omega) fun pn H11 hpn x11 h11 => ⟨_, _, _, ws ++ [.ref pn], rfl, Ex.mut ((xx.trans x10).trans x11) hL, upd_same, ?_, ?_, ?_, ?_, ?_⟩
      · rw [fold1, hput]
        have hpL : pn ≠ L := fun z => by
          rw [z, x10 _ _ hL9] at hpn
          cases hpn
        exact Paired.app (Lists.put hnL ((hli9.ex x10).ex x11)) (.cons ⟨pn, rfl, by rw [upd_ne hpL]; exact h11⟩ .nil)
      · rw [fold1]
        exact hla'
      · rw [List.nodup_append]
        refine ⟨nd, List.nodup_cons.mpr ⟨by simp, List.nodup_nil⟩, fun v hv w hw z => ?_⟩
        rw [List.mem_singleton.mp hw] at z
        rw [z] at hv
        obtain ⟨k, hk⟩ := List.mem_iff_getElem?.mp hv
        obtain ⟨l, _, q, e, hq⟩ := Paired.at2 (hli9.ex x10) hk
        cases e
        rw [hpn] at hq
        cases hq
      · intro v hv z
        rcases List.mem_append.mp hv with hv | hv
        · exact hnL v hv z
        · rw [List.mem_singleton.mp hv] at z
          cases z
          rw [x10 _ _ hL9] at hpn
          cases hpn
      · intro q hv
        rcases List.mem_append.mp hv with hv | hv
        · exact hfr5 q hv
        · have e := List.mem_singleton.mp hv
          cases e
          exact fresh_back (xx.trans x10) hpn
    | some k =>
      rw [ht] at hput
      have hk := La.takeF_lt _ _ ht
      refine s_if (et_isN (ev_var rfl)) (fun hb H10 x10 => by cases hb) (fun hb H10 x10 => ?_)
      have hkw : k < ws.length := by omega
      obtain ⟨l, hl, q, eq, hq⟩ := Paired.at2 (hli9.ex x10) (List.getElem?_eq_getElem hkw)
      have hwk : ws[k]? = some (.ref q) := by rw [List.getElem?_eq_getElem hkw, eq]
      have hqm : V.ref q ∈ ws := List.mem_of_getElem? hwk
      have hqL : q ≠ L := fun z => hnL _ hqm (by rw [z])
      have el : c.getD k [] = l := by
        rw [List.getD_eq_getElem?_getD, hl]
        rfl
      have hll : l.length ≤ 10 := by
        have h1 := La.len_flatten (List.mem_of_getElem? hl)
        have h2 := hla.sum
        omega
      refine s_app (xs := nums l) hq (ev_op (ev_var rfl) (ev_var rfl) (rv_ixL (sq_of (x10 _ _ hL9)) (at_of rfl hwk))) (ev_var rfl) (by unfold nums; rw [List.length_map]; omega) fun H11 x11 => ⟨_, _, _, ws, rfl, Ex.mut ((xx.trans x10).trans x11) (hfr5 q hqm), ?_, ?_, ?_, nd, hnL, hfr5⟩
      · rw [upd_ne (Ne.symm hqL)]
        exact x11 _ _ (x10 _ _ hL9)
      · rw [fold1, hput]
        show Lists _ ws (c.set k (c.getD k [] ++ [i]))
        rw [el]
        have e2 : nums l ++ [V.int (i : Int)] = nums (l ++ [i]) := by
          unfold nums
          rw [List.map_append]
          rfl
        rw [e2]
        exact Lists.set ((hli9.ex x10).ex x11) nd hwk
      · rw [fold1]
        exact hla'
  · rintro σ' H' ⟨o3, o4, o5, ws, rfl, x7, h7, hli, hla, _⟩
    have hl : (nums ord).length = ord.length := by
      unfold nums
      rw [List.length_map]
    rw [hl, List.take_length] at hli
    have hcs : ord.foldl (now es).put [] = (now es).clocks := by
      rw [La.ord_byLight hord']
      rfl
    rw [hcs] at hli
    exact s_ret (ev_var rfl) fun H8 x8 => r L ws H8 (xH5.trans (ExtN.of (x7.trans x8))) (hT5.ext (x7.trans x8)) (x8 _ _ h7) (hli.ex x8)
end
end Lw

set_option Elab.async false
set_option linter.all false
set_option autoImplicit false
set_option maxRecDepth 100000
set_option maxHeartbeats 4000000
namespace Lw
open PySem PySem.Spec PyProof.Rows L2 Evl LamX

/-! ### a new list of events -/
/-- te makes a new list of events es -/
def EvE (te : TE) (σ : L2.St) (H : Hp) (es : List Evt) : Prop := ∀ H1, Ex H H1 → ∀ Q : VK, (∀ p vs H2, H1 p = none → Ex H1 H2 → H2 p = some (.lst vs) → EvsAt H2 vs es → Q (.ref p) H2) → te σ H1 Q
section
variable {K : PySem.W.Frag} {mg : Str → Option Value} {C A P1 P2 P3 l : Addr} {σ : L2.St} {H : Hp} {ta tb te tv : TE} {D : Ends} {tz : TS}
theorem EvE.is {es fs : List Evt} (h : EvE te σ H es) (e : es = fs) : EvE te σ H fs := by
  rw [← e]
  exact h
/-- one event made: [(t, x)] -/
theorem ee_one {t x : Int} (ha : Ev ta σ H (.int t)) (hb : Ev tb σ H (.int x)) : EvE (tLst (tCons (tTup (tCons ta (tCons tb tNil))) tNil)) σ H [⟨t, x⟩] := fun H1 e Q q => by
  show tTup (tCons ta (tCons tb tNil)) σ H1 (fun v H2 => tNil σ H2 fun vs H3 => (v :: vs).length ≤ sizeLine ∧ ∀ p, H3 p = none → Q (.ref p) (upd H3 p (.lst (v :: vs))))
  refine eu_tup (ea_cons ha (ea_cons hb ea_nil)) (by show 2 ≤ 100000; decide) H1 e _ fun u H2 hu e2 h2 => ?_
  exact ⟨(by show 1 ≤ sizeLine; decide), fun p hp => q p _ _ (fresh_back e2 hp) (e2.trans (Ex.new hp)) upd_same (.cons ⟨u, rfl, by rw [upd_ne (ne_of_none h2 hp)]; exact h2⟩ .nil)⟩
/-- a list of events that stands, cut -/
theorem ee_sl {tl th : TO} {a : Addr} {vs : List V} {es : List Evt} {lo hi : Option Int} {n m : Nat} (h : Ev te σ H (.ref a)) (h1 : EvO tl σ H lo) (h2 : EvO th σ H hi) (hs : H a = some (.lst vs)) (he : EvsAt H vs es)
    (hc : cutV vs lo hi = (vs.drop n).take m) : EvE (tSl (rSlL K) te tl th) σ H ((es.drop n).take m) := fun H1 e Q q =>
  el_sl h h1 h2 (sq_of hs) H1 e _ fun p H2 hp e2 h3 => by
    rw [hc] at h3
    exact q p _ H2 hp e2 h3 (Paired.tk m (Paired.dr n (he.ex (e.trans e2))))
/-- joined -/
theorem ee_cat {es fs : List Evt} (ha : EvE ta σ H es) (hb : EvE tb σ H fs) (hl : es.length + fs.length ≤ 1000) : EvE (tOp rCat ta tb) σ H (es ++ fs) := fun H1 e Q q =>
  ha H1 e _ fun p vs H2 hp e2 h2 v2 => hb H2 (e.trans e2) _ fun r ws H3 hr e3 h3 w3 => by
    have a := Paired.len v2
    have b := Paired.len w3
    refine ⟨p, r, vs, ws, rfl, rfl, e3 _ _ h2, h3, sz_of (by omega), fun l hl => q l _ _ (fresh_back (e2.trans e3) hl) ((e2.trans e3).trans (Ex.new hl)) upd_same ?_⟩
    exact Paired.app (v2.ex (e3.trans (Ex.new hl))) (w3.ex (Ex.new hl))
theorem ee_catV {a : Addr} {vs : List V} {es fs : List Evt} (ha : Ev ta σ H (.ref a)) (hs : H a = some (.lst vs)) (he : EvsAt H vs es) (hb : EvE tb σ H fs) (hl : es.length + fs.length ≤ 1000) : EvE (tOp rCat ta tb) σ H (es ++ fs) := fun H1 e Q q =>
  ha H1 e _ fun H2 e2 => hb H2 (e.trans e2) _ fun r ws H3 hr e3 h3 w3 => by
    have a := Paired.len he
    have b := Paired.len w3
    refine ⟨_, r, vs, ws, rfl, rfl, e3 _ _ (e2 _ _ (e _ _ hs)), h3, sz_of (by omega), fun l hl => q l _ _ (fresh_back (e2.trans e3) hl) ((e2.trans e3).trans (Ex.new hl)) upd_same ?_⟩
    exact Paired.app (he.ex (((e.trans e2).trans e3).trans (Ex.new hl))) (w3.ex (Ex.new hl))
/-- each event of a list made anew -/
theorem ee_map {a : Addr} {vs : List V} {es : List Evt} {g : Evt → Evt} {j : Nat} {ws : List Nat} {tl : TE} {tx ty : TE} (h : Ev tl σ H (.ref a)) (hs : H a = some (.lst vs)) (he : EvsAt H vs es) (hz : es.length ≤ 1000) (hw : ∀ x, wipe ((wipe σ ws).set j (some x)) ws = wipe σ ws)
    (hx : ∀ (q : Addr) (e : Evt) (H1 : Hp), Ex H H1 → H1 q = some (.tup [.int e.t, .int e.x]) → Ev tx ((wipe σ ws).set j (some (.ref q))) H1 (.int (g e).t))
    (hy : ∀ (q : Addr) (e : Evt) (H1 : Hp), Ex H H1 → H1 q = some (.tup [.int e.t, .int e.x]) → Ev ty ((wipe σ ws).set j (some (.ref q))) H1 (.int (g e).x)) :
    EvE (tLc (iList K tl) (gName j) tYes (tTup (tCons tx (tCons ty tNil))) ws) σ H (es.map g) := fun H0 e Q q => h H0 e _ fun H1 e1 => ⟨a, rfl, ⟨vs, sq_of ((e.trans e1) _ _ hs)⟩, fun Dl hD => by
  have hl := Paired.len he
  refine lc_list (xs := vs) (fun i H' => H1 Dl = none ∧ Ex H1 H' ∧ ∃ acc, H' Dl = some (.lst acc) ∧ EvsAt H' acc ((es.take i).map g)) ⟨hD, Ex.new hD, [], upd_same, .nil⟩ (fun i H' _ p => sq_of (p.2.1 _ _ ((e.trans e1) _ _ hs))) ?_ ?_
  · rintro i x H' hi ⟨p1, p2, acc, p3, p4⟩
    refine ⟨hw x, ?_⟩
    obtain ⟨ev, hev, u, rfl, hu⟩ := Paired.at2 he hi
    have hu' := ((e.trans e1).trans p2) _ _ hu
    show tTup (tCons tx (tCons ty tNil)) ((wipe σ ws).set j (some (V.ref u))) H' fun y H4 => ∃ acc, H4 Dl = some (.lst acc) ∧ acc.length < sizeLine ∧ H1 Dl = none ∧ Ex H1 (upd H4 Dl (.lst (acc ++ [y]))) ∧ ∃ acc2, upd H4 Dl (.lst (acc ++ [y])) Dl = some (.lst acc2) ∧ EvsAt (upd H4 Dl (.lst (acc ++ [y]))) acc2 ((es.take (i + 1)).map g)
    refine eu_tup (ea_cons (hx u ev H' ((e.trans e1).trans p2) hu') (ea_cons (hy u ev H' ((e.trans e1).trans p2) hu') ea_nil)) (by show 2 ≤ 100000; decide) H' (Ex.refl H') _ fun r H4 hr e4 h4 => ?_
    have hil : i < es.length := (List.getElem?_eq_some_iff.mp hev).1
    have al := Paired.len p4
    rw [List.length_map, List.length_take] at al
    have d4 := e4 _ _ p3
    refine ⟨acc, d4, sz_lt (by omega), p1, Ex.mut (p2.trans e4) p1, _, upd_same, ?_⟩
    have keep : ∀ v f, EvAt H4 v f → EvAt (upd H4 Dl (.lst (acc ++ [.ref r]))) v f := by
      rintro v f ⟨s, rfl, hs⟩
      refine ⟨s, rfl, ?_⟩
      rw [upd_ne]
      · exact hs
      · intro z
        rw [z, d4] at hs
        cases hs
    have tk : (es.take (i + 1)).map g = (es.take i).map g ++ [g ev] := by
      rw [List.take_succ, hev, List.map_append]
      rfl
    rw [tk]
    exact Paired.to keep (Paired.app (p4.ex e4) (.cons ⟨r, rfl, h4⟩ .nil))
  · rintro H' ⟨p1, p2, acc, p3, p4⟩
    rw [hl, List.take_length] at p4
    exact q Dl acc H' (fresh_back e1 p1) (e1.trans p2) p3 p4⟩

/-! ### slices by place -/
theorem cut_to {vs : List V} {i : Int} (h0 : 0 ≤ i) : cutV vs none (some i) = (vs.drop 0).take i.toNat := by
  unfold cutV
  rw [HT.sIx_none]
  have e : i = (i.toNat : Int) := by omega
  conv => lhs; rw [e]
  rw [HT.sIx_nat, Nat.sub_zero]
  rw [List.drop_zero]
  by_cases h : i.toNat ≤ vs.length
  · rw [Nat.min_eq_left h]
  · rw [Nat.min_eq_right (by omega), List.take_of_length_le (Nat.le_refl _), List.take_of_length_le (by omega)]
theorem cut_from {vs : List V} {i : Int} (h0 : 0 ≤ i) : cutV vs (some i) none = (vs.drop i.toNat).take vs.length := by
  unfold cutV
  rw [HT.sIx_none]
  have e : i = (i.toNat : Int) := by omega
  conv => lhs; rw [e]
  rw [HT.sIx_nat]
  by_cases h : i.toNat ≤ vs.length
  · rw [Nat.min_eq_left h, List.take_of_length_le (by rw [List.length_drop]; omega), List.take_of_length_le (by rw [List.length_drop]; omega)]
  · rw [Nat.min_eq_right (by omega), List.drop_of_length_le (Nat.le_refl _), List.drop_of_length_le (by omega)]
    simp
theorem cut_mid {vs : List V} {i j : Int} (h0 : 0 ≤ i) (h1 : 0 ≤ j) (hl : j ≤ vs.length) : cutV vs (some i) (some j) = (vs.drop i.toNat).take (j.toNat - i.toNat) := by
  unfold cutV
  have e : i = (i.toNat : Int) := by omega
  have f : j = (j.toNat : Int) := by omega
  conv => lhs; rw [e, f]
  rw [HT.sIx_nat, HT.sIx_nat, Nat.min_eq_left (by omega : j.toNat ≤ vs.length)]
  by_cases h : i.toNat ≤ vs.length
  · rw [Nat.min_eq_left h]
  · rw [Nat.min_eq_right (by omega), List.drop_of_length_le (Nat.le_refl _), List.drop_of_length_le (by omega)]
    simp
theorem take_all {α : Type} (l : List α) (i : Nat) : (l.drop i).take l.length = l.drop i := List.take_of_length_le (by rw [List.length_drop]; omega)
theorem erase_parts {α : Type} (l : List α) (i : Nat) (h : i < l.length) : (l.drop 0).take i ++ (l.drop (i + 1)).take l.length = l.eraseIdx i := by
  rw [take_all, List.drop_zero, List.eraseIdx_eq_take_drop_succ]
theorem set_parts {α : Type} (l : List α) (i : Nat) (x : α) (h : i < l.length) : ((l.drop 0).take i ++ [x]) ++ (l.drop (i + 1)).take l.length = l.set i x := by
  rw [take_all, List.drop_zero, List.set_eq_take_append_cons_drop, if_pos h, List.append_assoc]
  rfl

/-- the last ten; all but the last -/
theorem cut_last {vs : List V} : cutV vs (some (-10)) none = vs.drop (vs.length - 10) := by
  unfold cutV
  have e : HT.sIx vs.length 0 (some (-10)) = vs.length - 10 := by
    show (if (-10 : Int) < 0 then ((-10 : Int) + (vs.length : Int)).toNat else min (-10 : Int).toNat vs.length) = _
    rw [if_pos (by decide)]
    omega
  rw [e, HT.sIx_none, List.take_of_length_le (by rw [List.length_drop]; exact Nat.le_refl _)]
theorem cut_but {vs : List V} : cutV vs none (some (-1)) = vs.take (vs.length - 1) := by
  unfold cutV
  have e : HT.sIx vs.length vs.length (some (-1)) = vs.length - 1 := by
    show (if (-1 : Int) < 0 then ((-1 : Int) + (vs.length : Int)).toNat else min (-1 : Int).toNat vs.length) = _
    rw [if_pos (by decide)]
    omega
  rw [e, HT.sIx_none, List.drop_zero, Nat.sub_zero]
theorem el_slN {tl th : TO} {xs : List V} {lo hi : Option Int} (h : EvL te σ H xs) (h1 : EvO tl σ H lo) (h2 : EvO th σ H hi) : EvL (tSl (rSlL K) te tl th) σ H (cutV xs lo hi) := fun H1 e _ q =>
  h H1 e _ fun a H2 _ e2 ha => h1 H2 (e.trans e2) _ fun H3 e3 => h2 H3 ((e.trans e2).trans e3) _ fun H4 e4 =>
    ⟨a, xs, rfl, sq_of (e4 _ _ (e3 _ _ ha)), fun p hp => q p _ (fresh_back ((e2.trans e3).trans e4) hp) (((e2.trans e3).trans e4).trans (Ex.new hp)) upd_same⟩

/-! ### the object, by the machine's state -/
def pts (st : Kv413.State) : List Evt := match st with
  | none => []
  | some a => a.now.l
def pst (st : Kv413.State) : List Kv413.Now := match st with
  | none => []
  | some a => a.past
def fsOf (b : Bool) (p h : Addr) : List (Str × V) := [("begun", .bl b), ("points", .ref p), ("earlier", .ref h)]
/-- the lists that were there earlier -/
abbrev Hist (l : Addr) (H : Hp) : List V → List Kv413.Now → Prop := Paired (fun v w => ∃ q, v = .ref q ∧ PtsAt H q w.l ∧ q ≠ l)
structure Obj (C l : Addr) (T : List (Addr × Str)) (H : Hp) (s : Addr) (st : Kv413.State) : Prop where
  ex : ∃ dx p h hs, H s = some (.ins C dx (fsOf st.isSome p h)) ∧ PtsAt H p (pts st) ∧ p ≠ l ∧ H h = some (.lst hs) ∧ h ≠ l ∧ Hist l H hs (pst st).reverse
  tr : ∃ xs, H l = some (.lst xs)
  tb : Tabs T H
  sm : ∀ e ∈ pts st, Small e
  le : (pts st).length ≤ 10
  psm : ∀ w ∈ pst st, ∀ e ∈ w.l, Small e
  ple : ∀ w ∈ pst st, w.l.length ≤ 10
  few : (pst st).length ≤ 10
theorem fs_points (b : Bool) (p h : Addr) : (fsOf b p h).lookup ("points" : Str) = some (V.ref p) := (lk_past (by decide +kernel)).trans lk_here
theorem fs_earlier (b : Bool) (p h : Addr) : (fsOf b p h).lookup ("earlier" : Str) = some (V.ref h) := (lk_past (by decide +kernel)).trans ((lk_past (by decide +kernel)).trans lk_here)
theorem fs_begun (b : Bool) (p h : Addr) : (fsOf b p h).lookup ("begun" : Str) = some (V.bl b) := lk_here
theorem fs_put_points (b : Bool) (p q h : Addr) : putF "points" (.ref q) (fsOf b p h) = fsOf b q h := (put_past (by decide +kernel)).trans (congrArg _ put_here)
theorem fs_put_earlier (b : Bool) (p h g : Addr) : putF "earlier" (.ref g) (fsOf b p h) = fsOf b p g := (put_past (by decide +kernel)).trans (congrArg _ ((put_past (by decide +kernel)).trans (congrArg _ put_here)))
theorem fs_put_begun (b c : Bool) (p h : Addr) : putF "begun" (.bl c) (fsOf b p h) = fsOf c p h := put_here
section
variable {T : List (Addr × Str)}
theorem Obj.at_ {s : Addr} {st : Kv413.State} (O : Obj C l T H s st) : ∃ dx fs, H s = some (.ins C dx fs) ∧ fs.map (·.1) = flds := by
  obtain ⟨dx, p, h, hs, h1, _⟩ := O.ex
  exact ⟨dx, _, h1, rfl⟩
theorem Obj.sess {s : Addr} {st : Kv413.State} (O : Obj C l T H s st) : Sess C H s (pts st) := by
  obtain ⟨dx, p, h, hs, h1, ⟨ws, h2, h3⟩, _⟩ := O.ex
  exact ⟨⟨dx, _, p, ws, h1, rfl, fs_points _ p h, h2, h3⟩, O.sm, O.le⟩
theorem Obj.extN {s : Addr} {st : Kv413.State} {H' : Hp} (O : Obj C l T H s st) (x : ExtN H H') (t : Tabs T H') : Obj C l T H' s st := by
  obtain ⟨dx, p, h, hs, h1, h2, h3, h4, h5, h6⟩ := O.ex
  obtain ⟨xs, hx⟩ := O.tr
  exact ⟨⟨dx, p, h, hs, x _ _ h1 (fun ps z => by cases z), h2.extN x, h3, x _ _ h4 (fun ps z => by cases z), h5, Paired.to (fun v w ⟨q, a, b, c⟩ => ⟨q, a, b.extN x, c⟩) h6⟩, ⟨xs, x _ _ hx (fun ps z => by cases z)⟩, t, O.sm, O.le, O.psm, O.ple, O.few⟩
theorem Obj.mono {s : Addr} {st : Kv413.State} {H' : Hp} (O : Obj C l T H s st) (x : Ex H H') : Obj C l T H' s st := O.extN (ExtN.of x) (O.tb.ext x)
/-- all but s stands, tables aside -/
def KeepN (s : Addr) (H H' : Hp) : Prop := ∀ b o, b ≠ s → H b = some o → (∀ ps, o ≠ .tbl ps) → H' b = some o
theorem KeepN.of {s : Addr} {H H' : Hp} (x : Keep s H H') : KeepN s H H' := fun b o n h _ => x b o n h
theorem KeepN.ex {s : Addr} {H H' : Hp} (x : Ex H H') : KeepN s H H' := KeepN.of (Keep.ex x)
theorem KeepN.ext {s : Addr} {H H' : Hp} (x : ExtN H H') : KeepN s H H' := fun b o _ h n => x b o h n
theorem KeepN.trans {s : Addr} {H H1 H2 : Hp} (a : KeepN s H H1) (b : KeepN s H1 H2) : KeepN s H H2 := fun c o n h t => b c o n (a c o n h t) t
/-- the promise of a call: a list is handed back, the object is in the next state, all else stands -/
def RetM (C l : Addr) (T : List (Addr × Str)) (s : Addr) (r : Kv413.State × List Int) (H : Hp) (Q : VK) : Prop := ∀ p H2, KeepN s H H2 → Obj C l T H2 s r.1 → H2 p = some (.lst (r.2.map V.int)) → Q (.ref p) H2
theorem RetM.look {s : Addr} {st : Kv413.State} {ans : List Int} {Q : VK} (O : Obj C l T H s st) (k : RetM C l T s (st, ans) H Q) : RetL (ans.map V.int) H Q := fun p H2 _ e h => k p H2 (KeepN.ex e) (O.mono e) h
theorem RetM.lookN {s : Addr} {st : Kv413.State} {ans : List Int} {Q : VK} (O : Obj C l T H s st) (k : RetM C l T s (st, ans) H Q) : ∀ p H2, ExtN H H2 → Tabs T H2 → H2 p = some (.lst (ans.map V.int)) → Q (.ref p) H2 := fun p H2 x t h => k p H2 (KeepN.ext x) (O.extN x t) h
theorem RetM.mono {s : Addr} {r : Kv413.State × List Int} {Q : VK} {H1 : Hp} (x : Ex H H1) (k : RetM C l T s r H Q) : RetM C l T s r H1 Q := fun p H2 a b c => k p H2 ((KeepN.ex x).trans a) b c
theorem RetM.is {s : Addr} {r r' : Kv413.State × List Int} {Q : VK} (k : RetM C l T s r H Q) (e : r = r') : RetM C l T s r' H Q := e ▸ k
/-- what is not the object stands when the object is written -/
theorem PtsAt.put {H : Hp} {s p dx : Addr} {fs : List (Str × V)} {es : List Evt} {o : HO} (hs : H s = some (.ins C dx fs)) (h : PtsAt H p es) : PtsAt (upd H s o) p es := by
  obtain ⟨ws, a, b⟩ := h
  refine ⟨ws, ?_, Paired.to (fun v e ⟨q, c, d⟩ => ⟨q, c, ?_⟩) b⟩
  · rw [upd_ne (fun z => by rw [z, hs] at a; cases a)]
    exact a
  · rw [upd_ne (fun z => by rw [z, hs] at d; cases d)]
    exact d
/-- the object written: points at p, what was at h -/
theorem Obj.stored {s dx p h : Addr} {hs : List V} {st' : Kv413.State} {b : Bool} {H1 : Hp} (h1 : PtsAt H1 p (pts st')) (h2 : H1 h = some (.lst hs)) (h3 : Hist l H1 hs (pst st').reverse) (hso : ∃ fs, H1 s = some (.ins C dx fs)) (hb : b = st'.isSome) (ht : ∃ xs, H1 l = some (.lst xs)) (hp : p ≠ l) (hh : h ≠ l) (tb : Tabs T H1)
    (sm : ∀ e ∈ pts st', Small e) (le : (pts st').length ≤ 10) (psm : ∀ w ∈ pst st', ∀ e ∈ w.l, Small e) (ple : ∀ w ∈ pst st', w.l.length ≤ 10) (few : (pst st').length ≤ 10) :
    Obj C l T (upd H1 s (.ins C dx (fsOf b p h))) s st' := by
  obtain ⟨fs, hso⟩ := hso
  obtain ⟨xs, ht⟩ := ht
  have ne1 : h ≠ s := fun z => by
    rw [z, hso] at h2
    cases h2
  have ne2 : l ≠ s := fun z => by
    rw [z, hso] at ht
    cases ht
  refine ⟨⟨dx, p, h, hs, by rw [← hb]; exact upd_same, h1.put hso, hp, by rw [upd_ne ne1]; exact h2, hh, Paired.to (fun v w ⟨q, a, b, c⟩ => ⟨q, a, b.put hso, c⟩) h3⟩, ⟨xs, by rw [upd_ne ne2]; exact ht⟩, ?_, sm, le, psm, ple, few⟩
  exact Tabs.keep tb Keep.put hso (fun ps z => by cases z) (fun φ z => by cases z)
theorem ev_points {s dx p h : Addr} {b : Bool} (X : Txt K mg C A P1 P2 P3) (he : Ev ta σ H (.ref s)) (h1 : H s = some (.ins C dx (fsOf b p h))) : Ev (tFld K ta "points") σ H (.ref p) := ev_fld he h1 X.cl_Session X.f_Session_points (fs_points _ p _)
theorem ev_earlier {s dx p h : Addr} {b : Bool} (X : Txt K mg C A P1 P2 P3) (he : Ev ta σ H (.ref s)) (h1 : H s = some (.ins C dx (fsOf b p h))) : Ev (tFld K ta "earlier") σ H (.ref h) := ev_fld he h1 X.cl_Session X.f_Session_earlier (fs_earlier _ p _)
end

/-! ### begin -/
def sp_Session_begin (K : PySem.W.Frag) (C A P1 P2 P3 : Addr) : Sp := fun vs H Q _ => ∃ l s st, vs = [.ref s] ∧ Obj C l (tabsT P1 P2 P3) H s st ∧ RetM C l (tabsT P1 P2 P3) s (some ⟨⟨[]⟩, []⟩, [0]) H Q
theorem len_Session_begin : ∀ vs H Q E, sp_Session_begin K C A P1 P2 P3 vs H Q E → vs.length = 1 := by
  rintro vs H Q E ⟨_, _, _, rfl, _⟩
  rfl
theorem pure_Session_begin (T : Txt K mg C A P1 P2 P3) : ∀ vs H Q E, sp_Session_begin K C A P1 P2 P3 vs H Q E → t_Session_begin K C A P1 P2 P3 { nx := fun _ H' => Q .non H', rt := Q } (start N_Session_begin vs) H := by
  rintro vs H Q E ⟨l, s, st, rfl, O, k⟩
  obtain ⟨dx, p, h, hs, h1, _⟩ := O.ex
  obtain ⟨xl, hxl⟩ := O.tr
  have lne : l ≠ s := fun z => by
    rw [z, h1] at hxl
    cases hxl
  refine q_fld ev_c (fun _ _ => ev_var rfl) h1 T.cl_Session T.f_Session_begun (by show 3 < 1000; decide) fun H1 e1 => ?_
  rw [fs_put_begun]
  refine q_fldL (el_lst ea_nil (by show 0 ≤ 100000; decide)) (fun _ _ => ev_var rfl) upd_same T.cl_Session T.f_Session_points (by show 3 < 1000; decide) fun q H2 hq e2 h4 => ?_
  rw [fs_put_points]
  refine q_fldL (el_lst ea_nil (by show 0 ≤ 100000; decide)) (fun _ _ => ev_var rfl) upd_same T.cl_Session T.f_Session_earlier (by show 3 < 1000; decide) fun g H3 hg e3 h5 => ?_
  rw [fs_put_earlier]
  have kp : Keep s H H3 := (((Keep.ex e1).trans Keep.put).trans (Keep.ex e2)).trans (Keep.put.trans (Keep.ex e3))
  have hl3 := kp _ _ lne hxl
  have s3 := e3 _ _ (upd_same (H := H2) (a := s) (o := .ins C dx (fsOf true q h)))
  have hqs : q ≠ s := fun z => by
    rw [z] at hq
    have : upd H1 s (.ins C dx (fsOf true p h)) s = none := hq
    rw [upd_same] at this
    cases this
  have h43 : H3 q = some (.lst []) := e3 _ _ (by rw [upd_ne hqs]; exact h4)
  have hql : q ≠ l := fun z => by
    rw [z, upd_ne lne] at hq
    rw [e1 _ _ hxl] at hq
    cases hq
  have hgl : g ≠ l := fun z => by
    have := ((((Keep.ex e1).trans Keep.put).trans (Keep.ex e2)).trans (Keep.put (o := .ins C dx (fsOf true q h)))) _ _ lne hxl
    rw [← z, hg] at this
    cases this
  refine s_retL (el_one ev_c) fun r H4 hr e4 h6 => ?_
  refine k r H4 (KeepN.of (kp.trans (Keep.put.trans (Keep.ex e4)))) ?_ h6
  exact (Obj.stored (st' := some ⟨⟨[]⟩, []⟩) ⟨[], h43, .nil⟩ h5 .nil ⟨_, s3⟩ rfl ⟨xl, hl3⟩ hql hgl (Tabs.keep O.tb kp h1 (fun ps z => by cases z) (fun φ z => by cases z)) (fun e he => by cases he) (Nat.zero_le _) (fun w hw => by cases hw) (fun w hw => by cases hw) (Nat.zero_le _)).mono e4

/-! ### become -/
/-- the next state of a change -/
abbrev nextS (a : Kv413.Abs) (es : List Evt) : Kv413.State := some ⟨⟨es⟩, (a.now :: a.past).take 10⟩
def sp_Session_become (K : PySem.W.Frag) (C A P1 P2 P3 : Addr) : Sp := fun vs H Q _ => ∃ l s a p es, vs = [.ref s, .ref p] ∧ Obj C l (tabsT P1 P2 P3) H s (some a) ∧ PtsAt H p es ∧ p ≠ l ∧ (∀ e ∈ es, Small e) ∧ es.length ≤ 10 ∧ ∀ H2, Keep s H H2 → Obj C l (tabsT P1 P2 P3) H2 s (nextS a es) → Q .non H2
theorem len_Session_become : ∀ vs H Q E, sp_Session_become K C A P1 P2 P3 vs H Q E → vs.length = 2 := by
  rintro vs H Q E ⟨_, _, _, _, _, rfl, _⟩
  rfl
theorem pure_Session_become (T : Txt K mg C A P1 P2 P3) : ∀ vs H Q E, sp_Session_become K C A P1 P2 P3 vs H Q E → t_Session_become K C A P1 P2 P3 { nx := fun _ H' => Q .non H', rt := Q } (start N_Session_become vs) H := by
  rintro vs H Q E ⟨l, s, a, p', es, rfl, O, hp', hpl', hsm, hle, k⟩
  obtain ⟨dx, p, h, hs, h1, h2, hpl, h4, hhl, h6⟩ := O.ex
  obtain ⟨xl, hxl⟩ := O.tr
  have hfew : a.past.length ≤ 10 := O.few
  have hsl : hs.length = a.past.length := by
    rw [Paired.len h6]
    show a.past.reverse.length = _
    rw [List.length_reverse]
  refine q_fldL (el_slN (el_catV (ev_earlier T (ev_var rfl) h1) (el_lst (ea_cons (ev_points T (ev_var rfl) h1) ea_nil) (by show 1 ≤ 100000; decide)) h4 (by rw [hsl]; show a.past.length + 1 ≤ 100000; omega)) (eo_some (ev_un ev_c ru_neg)) eo_none) (fun _ _ => ev_var rfl) h1 T.cl_Session T.f_Session_earlier (by show 3 < 1000; decide) fun g H1 hg e1 h5 => ?_
  have hcut : cutV (hs ++ [V.ref p]) (some (-10)) none = (hs ++ [V.ref p]).drop ((hs ++ [V.ref p]).length - 10) := cut_last
  rw [hcut] at h5
  rw [fs_put_earlier]
  refine s_fld (ev_var rfl) (fun _ _ => ev_var rfl) upd_same T.cl_Session T.f_Session_points (by show 3 < 1000; decide) fun H2 e2 => ?_
  rw [fs_put_points]
  have kp : Keep s H H2 := ((Keep.ex e1).trans Keep.put).trans (Keep.ex e2)
  have lne : l ≠ s := fun z => by
    rw [z, h1] at hxl
    cases hxl
  have gs : g ≠ s := fun z => by
    rw [z, h1] at hg
    cases hg
  have hgl : g ≠ l := fun z => by
    rw [z, hxl] at hg
    cases hg
  have ptk : ∀ {q : Addr} {fs : List Evt}, PtsAt H q fs → PtsAt H2 q fs := fun {q fs} hq => ((hq.ex e1).put (e1 _ _ h1)).ex e2
  refine k _ (kp.trans Keep.put) (Obj.stored (st' := nextS a es) (ptk hp') (e2 _ _ (by rw [upd_ne gs]; exact h5)) ?_ ⟨_, e2 _ _ upd_same⟩ rfl ⟨xl, kp _ _ lne hxl⟩ hpl' hgl (Tabs.keep O.tb kp h1 (fun ps z => by cases z) (fun φ z => by cases z)) hsm hle ?_ ?_ ?_)
  · show Hist l H2 _ ((a.now :: a.past).take 10).reverse
    have e : ((a.now :: a.past).take 10).reverse = (a.past.reverse ++ [a.now]).drop ((a.past.reverse ++ [a.now]).length - 10) := by
      rw [List.reverse_take, List.reverse_cons]
      congr 1
      rw [List.length_append, List.length_reverse]
      rfl
    have hll : (hs ++ [V.ref p]).length = (a.past.reverse ++ [a.now]).length := by
      rw [List.length_append, List.length_append, List.length_reverse, hsl]
      rfl
    rw [e, hll]
    refine Paired.dr _ (Paired.app (Paired.to (fun v w ⟨q, c1, c2, c3⟩ => ⟨q, c1, ptk c2, c3⟩) h6) (.cons ⟨p, rfl, ptk h2, hpl⟩ .nil))
  · intro w hw
    have hw' : w ∈ (a.now :: a.past).take 10 := hw
    rcases List.mem_cons.mp (List.mem_of_mem_take hw') with z | z
    · rw [z]
      exact O.sm
    · exact O.psm w z
  · intro w hw
    have hw' : w ∈ (a.now :: a.past).take 10 := hw
    rcases List.mem_cons.mp (List.mem_of_mem_take hw') with z | z
    · rw [z]
      exact O.le
    · exact O.ple w z
  · show ((a.now :: a.past).take 10).length ≤ 10
    rw [List.length_take]
    omega
/-- self.become(..): a new list of events -/
theorem q_become {l s : Addr} {a : Kv413.Abs} {es : List Evt} {E : XK} (O : Obj C l (tabsT P1 P2 P3) H s (some a)) (h0 : σ[0]? = some (some (.ref s))) (he : EvE te σ H es) (hsm : ∀ e ∈ es, Small e) (hle : es.length ≤ 10)
    (k : ∀ H2, Keep s H H2 → Obj C l (tabsT P1 P2 P3) H2 s (nextS a es) → tz D σ H2) : tSeq (tDrop (tMeth C "become" (sp_Session_become K C A P1 P2 P3) [] E (tVar 0) (tCons te tNil))) tz D σ H := by
  obtain ⟨dx, fs, h1, h2⟩ := O.at_
  obtain ⟨xl, hxl⟩ := O.tr
  refine ⟨.ref s, h0, s, dx, fs, rfl, h1, lookup_none h2 (by decide +kernel), he H (Ex.refl H) _ fun p vs H1 hp e1 h3 h4 => ?_⟩
  exact ⟨l, s, a, p, es, rfl, O.mono e1, ⟨vs, h3, h4⟩, (fun z => by rw [z, hxl] at hp; cases hp), hsm, hle, fun H2 kp O2 => k H2 ((Keep.ex e1).trans kp) O2⟩
/-- len(self.points) -/
theorem ev_lenO {l s : Addr} {Tb : List (Addr × Str)} {st : Kv413.State} (T : Txt K mg C A P1 P2 P3) (O : Obj C l Tb H s st) (h : Ev ta σ H (.ref s)) : Ev (tCB (rLen K) (tCons (tFld K ta "points") tNil)) σ H (.int ((pts st).length : Int)) := by
  obtain ⟨dx, p, hh, hs, h1, h2, _⟩ := O.ex
  exact ev_lenP h2 (ev_points T h h1)

/-! ### put -/
def sp_Session_put (K : PySem.W.Frag) (C A P1 P2 P3 : Addr) : Sp := fun vs H Q _ => ∃ l s a t x, vs = [.ref s, .int t, .int x] ∧ Obj C l (tabsT P1 P2 P3) H s (some a) ∧ RetM C l (tabsT P1 P2 P3) s (some (a.does (.put t x)).1, Kv413Neutral.row (a.does (.put t x)).2) H Q
theorem len_Session_put : ∀ vs H Q E, sp_Session_put K C A P1 P2 P3 vs H Q E → vs.length = 3 := by
  rintro vs H Q E ⟨_, _, _, _, _, rfl, _⟩
  rfl
theorem pure_Session_put (T : Txt K mg C A P1 P2 P3) : ∀ vs H Q E, sp_Session_put K C A P1 P2 P3 vs H Q E → t_Session_put K C A P1 P2 P3 (sp_in_range K C A P1 P2 P3) (sp_Session_become K C A P1 P2 P3) { nx := fun _ H' => Q .non H', rt := Q } (start N_Session_put vs) H := by
  rintro vs H Q E ⟨l, s, a, t, x, rfl, O, k⟩
  unfold Kv413.Abs.does at k
  simp only [] at k
  refine q_when (et_not (et_and (et_B (ev_callN (ea_cons (ev_var rfl) ea_nil) spv_in_range)) fun _ => et_B (ev_callN (ea_cons (ev_var rfl) ea_nil) spv_in_range))) (fun hb H1 e1 => ?_) (fun hb H1 e1 => ?_)
  · rw [Bool.not_eq_true'] at hb
    rw [if_pos (ok_or.mpr hb)] at k
    exact s_retL (el_one ev_c) fun q H2 hq e2 h4 => (k.look O).go e1 hq e2 h4
  rw [Bool.not_eq_false'] at hb
  rw [if_neg (fun z => by rw [ok_or.mp z] at hb; cases hb)] at k
  refine q_when (et_test (ev_op (ev_lenO T (O.mono e1) (ev_var rfl)) ev_c rv_I0)) (fun hc H2 e2 => ?_) (fun hc H2 e2 => ?_)
  · have hc' : (10 : Int) ≤ (a.now.l.length : Int) := of_decide_eq_true hc
    rw [if_pos (show 10 ≤ a.now.l.length by omega)] at k
    exact s_retL (el_one ev_c) fun q H3 hq e3 h4 => (k.look O).go (e1.trans e2) hq e3 h4
  have hc' : ¬ (10 : Int) ≤ (a.now.l.length : Int) := of_decide_eq_false hc
  rw [if_neg (show ¬ 10 ≤ a.now.l.length by omega)] at k
  have x2 := e1.trans e2
  have O2 := O.mono x2
  obtain ⟨dx, p, h, hs, h1, ⟨ws, h2, h3⟩, _⟩ := O2.ex
  refine q_become (es := a.now.l ++ [⟨t, x⟩]) O2 rfl (ee_catV (ev_points T (ev_var rfl) h1) h2 h3 (ee_one (ev_var rfl) (ev_var rfl)) (by show a.now.l.length + 1 ≤ 1000; omega)) ?_ ?_ fun H3 kp O3 => ?_
  · intro e he
    rcases List.mem_append.mp he with he | he
    · exact O.sm e he
    · rw [List.mem_singleton.mp he]
      exact ok_iff.mp hb
  · rw [List.length_append]
    show a.now.l.length + 1 ≤ 10
    omega
  refine s_retL (el_one (ev_op (ev_lenO T O3 (ev_var rfl)) ev_c rv_I0)) fun r H4 hr e4 h5 => ?_
  refine k r H4 (((KeepN.ex x2).trans (KeepN.of kp)).trans (KeepN.ex e4)) (O3.mono e4) ?_
  rw [h5]
  show some (HO.lst [V.int (((a.now.l ++ [_]).length : Int) - 1)]) = some (HO.lst [V.int (a.now.l.length : Int)])
  rw [List.length_append]
  congr 3
  show V.int (((a.now.l.length + 1 : Nat) : Int) - 1) = _
  congr 1
  omega

/-! ### drop -/
def sp_Session_drop (K : PySem.W.Frag) (C A P1 P2 P3 : Addr) : Sp := fun vs H Q _ => ∃ l s a i, vs = [.ref s, .int i] ∧ 0 ≤ i ∧ Obj C l (tabsT P1 P2 P3) H s (some a) ∧ RetM C l (tabsT P1 P2 P3) s (some (a.does (.drop i.toNat)).1, Kv413Neutral.row (a.does (.drop i.toNat)).2) H Q
theorem len_Session_drop : ∀ vs H Q E, sp_Session_drop K C A P1 P2 P3 vs H Q E → vs.length = 2 := by
  rintro vs H Q E ⟨_, _, _, _, rfl, _⟩
  rfl
theorem pure_Session_drop (T : Txt K mg C A P1 P2 P3) : ∀ vs H Q E, sp_Session_drop K C A P1 P2 P3 vs H Q E → t_Session_drop K C A P1 P2 P3 (sp_Session_has K C A P1 P2 P3) (sp_Session_become K C A P1 P2 P3) { nx := fun _ H' => Q .non H', rt := Q } (start N_Session_drop vs) H := by
  rintro vs H Q E ⟨l, s, a, i, rfl, hi, O, k⟩
  have hn := no_of (es := a.now.l) hi
  unfold Kv413.Abs.does at k
  simp only [] at k
  refine q_when (et_not (et_B (ev_has O.sess (ev_var rfl) (ev_var rfl)))) (fun hb H1 e1 => ?_) (fun hb H1 e1 => ?_)
  · have hb' : (!hasB a.now.l i) = true := hb
    rw [if_pos (show a.now.no i.toNat = true from hn.trans hb')] at k
    exact s_retL (el_one ev_c) fun q H2 hq e2 h4 => (k.look O).go e1 hq e2 h4
  have hb' : (!hasB a.now.l i) = false := hb
  rw [if_neg (show ¬ a.now.no i.toNat = true from fun z => by rw [show a.now.no i.toNat = false from hn.trans hb'] at z; cases z)] at k
  rw [Bool.not_eq_false', hasB_iff] at hb'
  have hil : i.toNat < a.now.l.length := by omega
  have hi1 : (i + 1).toNat = i.toNat + 1 := by omega
  have le : a.now.l.length ≤ 10 := O.le
  have O1 := O.mono e1
  obtain ⟨dx, p, h, hs, h1, ⟨ws, h2, h3⟩, _⟩ := O1.ex
  have hl : ws.length = a.now.l.length := Paired.len h3
  refine q_become (es := a.now.l.eraseIdx i.toNat) O1 rfl (EvE.is (ee_cat (ee_sl (n := 0) (m := i.toNat) (ev_points T (ev_var rfl) h1) eo_none (eo_some (ev_var rfl)) h2 h3 (cut_to hi)) (ee_sl (n := i.toNat + 1) (m := a.now.l.length) (ev_points T (ev_var rfl) h1) (eo_some (ev_op (ev_var rfl) ev_c rv_I0)) eo_none h2 h3 ?_) ?_) (erase_parts _ _ hil)) ?_ ?_ fun H3 kp O3 => ?_
  · rw [cut_from (by omega), hi1, hl]
  · show ((a.now.l.drop 0).take i.toNat).length + ((a.now.l.drop (i.toNat + 1)).take a.now.l.length).length ≤ 1000
    rw [List.length_take, List.length_take, List.length_drop, List.length_drop]
    omega
  · intro e he
    exact O.sm e (List.mem_of_mem_eraseIdx he)
  · have := List.length_eraseIdx_le a.now.l i.toNat
    omega
  refine s_retL (el_one (ev_lenO T O3 (ev_var rfl))) fun r H4 hr e4 h5 => ?_
  refine k r H4 (((KeepN.ex e1).trans (KeepN.of kp)).trans (KeepN.ex e4)) (O3.mono e4) ?_
  rw [h5]
  show some (HO.lst [V.int ((a.now.l.eraseIdx i.toNat).length : Int)]) = _
  rw [List.length_eraseIdx_of_lt hil]
  rfl

/-! ### move -/
def sp_Session_move (K : PySem.W.Frag) (C A P1 P2 P3 : Addr) : Sp := fun vs H Q _ => ∃ l s a i t x, vs = [.ref s, .int i, .int t, .int x] ∧ 0 ≤ i ∧ Obj C l (tabsT P1 P2 P3) H s (some a) ∧ RetM C l (tabsT P1 P2 P3) s (some (a.does (.move i.toNat t x)).1, Kv413Neutral.row (a.does (.move i.toNat t x)).2) H Q
theorem len_Session_move : ∀ vs H Q E, sp_Session_move K C A P1 P2 P3 vs H Q E → vs.length = 4 := by
  rintro vs H Q E ⟨_, _, _, _, _, _, rfl, _⟩
  rfl
theorem pure_Session_move (T : Txt K mg C A P1 P2 P3) : ∀ vs H Q E, sp_Session_move K C A P1 P2 P3 vs H Q E → t_Session_move K C A P1 P2 P3 (sp_in_range K C A P1 P2 P3) (sp_Session_has K C A P1 P2 P3) (sp_Session_become K C A P1 P2 P3) { nx := fun _ H' => Q .non H', rt := Q } (start N_Session_move vs) H := by
  rintro vs H Q E ⟨l, s, a, i, t, x, rfl, hi, O, k⟩
  have hn := no_of (es := a.now.l) hi
  unfold Kv413.Abs.does at k
  simp only [] at k
  refine q_when (et_not (et_B (ev_has O.sess (ev_var rfl) (ev_var rfl)))) (fun hb H1 e1 => ?_) (fun hb H1 e1 => ?_)
  · have hb' : (!hasB a.now.l i) = true := hb
    rw [if_pos (show a.now.no i.toNat = true from hn.trans hb')] at k
    exact s_retL (el_one ev_c) fun q H2 hq e2 h4 => (k.look O).go e1 hq e2 h4
  have hb' : (!hasB a.now.l i) = false := hb
  rw [if_neg (show ¬ a.now.no i.toNat = true from fun z => by rw [show a.now.no i.toNat = false from hn.trans hb'] at z; cases z)] at k
  rw [Bool.not_eq_false', hasB_iff] at hb'
  have hil : i.toNat < a.now.l.length := by omega
  have hi1 : (i + 1).toNat = i.toNat + 1 := by omega
  have le : a.now.l.length ≤ 10 := O.le
  refine q_when (et_not (et_and (et_B (ev_callN (ea_cons (ev_var rfl) ea_nil) spv_in_range)) fun _ => et_B (ev_callN (ea_cons (ev_var rfl) ea_nil) spv_in_range))) (fun hc H2 e2 => ?_) (fun hc H2 e2 => ?_)
  · rw [Bool.not_eq_true'] at hc
    rw [if_pos (ok_or.mpr hc)] at k
    exact s_retL (el_one ev_c) fun q H3 hq e3 h4 => (k.look O).go (e1.trans e2) hq e3 h4
  rw [Bool.not_eq_false'] at hc
  rw [if_neg (fun z => by rw [ok_or.mp z] at hc; cases hc)] at k
  have x2 := e1.trans e2
  have O2 := O.mono x2
  obtain ⟨dx, p, h, hs, h1, ⟨ws, h2, h3⟩, _⟩ := O2.ex
  have hl : ws.length = a.now.l.length := Paired.len h3
  refine q_become (es := a.now.l.set i.toNat ⟨t, x⟩) O2 rfl (EvE.is (ee_cat (ee_cat (ee_sl (n := 0) (m := i.toNat) (ev_points T (ev_var rfl) h1) eo_none (eo_some (ev_var rfl)) h2 h3 (cut_to hi)) (ee_one (ev_var rfl) (ev_var rfl)) ?_) (ee_sl (n := i.toNat + 1) (m := a.now.l.length) (ev_points T (ev_var rfl) h1) (eo_some (ev_op (ev_var rfl) ev_c rv_I0)) eo_none h2 h3 ?_) ?_) (set_parts _ _ _ hil)) ?_ ?_ fun H3 kp O3 => ?_
  · show ((a.now.l.drop 0).take i.toNat).length + 1 ≤ 1000
    rw [List.length_take, List.length_drop]
    omega
  · rw [cut_from (by omega), hi1, hl]
  · show (((a.now.l.drop 0).take i.toNat) ++ [_]).length + ((a.now.l.drop (i.toNat + 1)).take a.now.l.length).length ≤ 1000
    rw [List.length_append, List.length_take, List.length_take, List.length_drop, List.length_drop]
    show _ + 1 + _ ≤ _
    omega
  · intro e he
    rcases List.mem_or_eq_of_mem_set he with he | he
    · exact O.sm e he
    · rw [he]
      exact ok_iff.mp hc
  · rw [List.length_set]
    exact le
  refine s_retL (el_one ev_c) fun r H4 hr e4 h5 => ?_
  exact k r H4 (((KeepN.ex x2).trans (KeepN.of kp)).trans (KeepN.ex e4)) (O3.mono e4) h5

/-! ### turn -/
def sp_Session_turn (K : PySem.W.Frag) (C A P1 P2 P3 : Addr) : Sp := fun vs H Q _ => ∃ l s a, vs = [.ref s] ∧ Obj C l (tabsT P1 P2 P3) H s (some a) ∧ RetM C l (tabsT P1 P2 P3) s (some (a.does .turn).1, Kv413Neutral.row (a.does .turn).2) H Q
theorem len_Session_turn : ∀ vs H Q E, sp_Session_turn K C A P1 P2 P3 vs H Q E → vs.length = 1 := by
  rintro vs H Q E ⟨_, _, _, rfl, _⟩
  rfl
theorem pure_Session_turn (T : Txt K mg C A P1 P2 P3) : ∀ vs H Q E, sp_Session_turn K C A P1 P2 P3 vs H Q E → t_Session_turn K C A P1 P2 P3 (sp_Session_become K C A P1 P2 P3) { nx := fun _ H' => Q .non H', rt := Q } (start N_Session_turn vs) H := by
  rintro vs H Q E ⟨l, s, a, rfl, O, k⟩
  obtain ⟨dx, p, h, hs, h1, ⟨ws, h2, h3⟩, _⟩ := O.ex
  have le : a.now.l.length ≤ 10 := O.le
  refine q_become (es := a.now.l.map fun e => ⟨-e.t, -e.x⟩) O rfl (ee_map (g := fun e => ⟨-e.t, -e.x⟩) (ev_points T (ev_var rfl) h1) h2 h3 (show a.now.l.length ≤ 1000 by omega) (fun _ => rfl) (fun q e H1 _ hq => ev_un (ev_op (ev_var rfl) ev_c (rv_ixT (st_of hq) rfl)) ru_neg) (fun q e H1 _ hq => ev_un (ev_op (ev_var rfl) ev_c (rv_ixT (st_of hq) rfl)) ru_neg)) ?_ ?_ fun H3 kp O3 => ?_
  · intro e he
    obtain ⟨f, hf, rfl⟩ := List.mem_map.mp he
    have := O.sm f hf
    unfold Small at this ⊢
    simp only
    omega
  · rw [List.length_map]
    exact le
  refine s_retL (el_one (ev_lenO T O3 (ev_var rfl))) fun r H4 hr e4 h5 => ?_
  refine k r H4 ((KeepN.of kp).trans (KeepN.ex e4)) (O3.mono e4) ?_
  rw [h5]
  show some (HO.lst [V.int ((a.now.l.map _).length : Int)]) = _
  rw [List.length_map]
  rfl

/-! ### back, state -/
def sp_Session_back (K : PySem.W.Frag) (C A P1 P2 P3 : Addr) : Sp := fun vs H Q _ => ∃ l s a, vs = [.ref s] ∧ Obj C l (tabsT P1 P2 P3) H s (some a) ∧ RetM C l (tabsT P1 P2 P3) s (some (a.does .back).1, Kv413Neutral.row (a.does .back).2) H Q
theorem len_Session_back : ∀ vs H Q E, sp_Session_back K C A P1 P2 P3 vs H Q E → vs.length = 1 := by
  rintro vs H Q E ⟨_, _, _, rfl, _⟩
  rfl
theorem ev_lenE {l s : Addr} {Tb : List (Addr × Str)} {st : Kv413.State} (T : Txt K mg C A P1 P2 P3) (O : Obj C l Tb H s st) (h : Ev ta σ H (.ref s)) : Ev (tCB (rLen K) (tCons (tFld K ta "earlier") tNil)) σ H (.int ((pst st).length : Int)) := by
  obtain ⟨dx, p, hh, hs, h1, _, _, h4, _, h6⟩ := O.ex
  have := ev_lenL (K := K) (ev_earlier T h h1) h4
  rw [Paired.len h6, List.length_reverse] at this
  exact this
theorem pure_Session_back (T : Txt K mg C A P1 P2 P3) : ∀ vs H Q E, sp_Session_back K C A P1 P2 P3 vs H Q E → t_Session_back K C A P1 P2 P3 { nx := fun _ H' => Q .non H', rt := Q } (start N_Session_back vs) H := by
  rintro vs H Q E ⟨l, s, a, rfl, O, k⟩
  obtain ⟨dx, p, h, hs, h1, h2, hpl, h4, hhl, h6⟩ := O.ex
  obtain ⟨xl, hxl⟩ := O.tr
  have h6' : Hist l H hs a.past.reverse := h6
  unfold Kv413.Abs.does at k
  simp only [] at k
  cases hpast : a.past with
  | nil =>
    rw [hpast] at h6' k
    have hs0 : hs = [] := by
      have := Paired.len h6'
      exact List.eq_nil_of_length_eq_zero this
    refine q_when (et_not (et_tru (ev_earlier T (ev_var rfl) h1) h4)) (fun hb H1 e1 => ?_) (fun hb H1 e1 => ?_)
    · exact s_retL (el_one ev_c) fun q H2 hq e2 h5 => (k.look O).go e1 hq e2 h5
    · rw [hs0] at hb
      cases hb
  | cons w ps =>
    rw [hpast, List.reverse_cons] at h6'
    rw [hpast] at k
    have hl : hs.length = ps.length + 1 := by
      rw [Paired.len h6', List.length_append, List.length_reverse]
      rfl
    refine q_when (et_not (et_tru (ev_earlier T (ev_var rfl) h1) h4)) (fun hb H1 e1 => ?_) (fun hb H1 e1 => ?_)
    · cases hs with
      | nil => cases hl
      | cons x r => cases hb
    -- the last one
    have hlast : (ps.reverse ++ [w])[ps.length]? = some w := by
      rw [List.getElem?_append_right (by rw [List.length_reverse]; exact Nat.le_refl _), List.length_reverse, Nat.sub_self]
      rfl
    obtain ⟨v, hv, q, rfl, hq, hql⟩ := Paired.at h6' hlast
    have hat : atI hs (-1) = some (.ref q) := by
      unfold atI ixN
      rw [if_neg (by decide), if_pos (by omega)]
      show hs[((-1 : Int) + (hs.length : Int)).toNat]? = _
      have e2 : ((-1 : Int) + (hs.length : Int)).toNat = ps.length := by omega
      rw [e2]
      exact hv
    refine q_fld (ev_op (ev_earlier T (ev_var rfl) (e1 _ _ h1)) (ev_un ev_c ru_neg) (rv_ixL (sq_of (e1 _ _ h4)) hat)) (fun _ _ => ev_var rfl) (e1 _ _ h1) T.cl_Session T.f_Session_points (by show 3 < 1000; decide) fun H2 e2 => ?_
    rw [fs_put_points]
    have x2 := e1.trans e2
    have hs_s : h ≠ s := fun z => by
      rw [z, h1] at h4
      cases h4
    have lne : l ≠ s := fun z => by
      rw [z, h1] at hxl
      cases hxl
    have hh2 : upd H2 s (.ins C dx (fsOf true q h)) h = some (.lst hs) := by
      rw [upd_ne hs_s]
      exact x2 _ _ h4
    have hl2 : upd H2 s (.ins C dx (fsOf true q h)) l = some (.lst xl) := by
      rw [upd_ne lne]
      exact x2 _ _ hxl
    refine q_fldL (el_sl (ev_earlier T (ev_var rfl) upd_same) eo_none (eo_some (ev_un ev_c ru_neg)) (sq_of hh2)) (fun _ _ => ev_var rfl) upd_same T.cl_Session T.f_Session_earlier (by show 3 < 1000; decide) fun g H3 hg e3 h5 => ?_
    rw [fs_put_earlier]
    have hcut : cutV hs none (some (-1)) = hs.take (hs.length - 1) := cut_but
    rw [hcut, hl, Nat.add_sub_cancel] at h5
    have hgl : g ≠ l := fun z => by
      have hg' : upd H2 s (.ins C dx (fsOf true q h)) g = none := hg
      rw [z, hl2] at hg'
      cases hg'
    have kp : Keep s H H3 := ((Keep.ex x2).trans Keep.put).trans (Keep.ex e3)
    have ptk : ∀ {q : Addr} {fs : List Evt}, PtsAt H q fs → PtsAt H3 q fs := fun {q fs} hq => ((hq.ex x2).put (x2 _ _ h1)).ex e3
    have hmem : ∀ w' ∈ a.past, w' ∈ a.past := fun _ h => h
    have O3 : Obj C l (tabsT P1 P2 P3) (upd H3 s (.ins C dx (fsOf true q g))) s (some ⟨w, ps⟩) := by
      refine Obj.stored (st' := some ⟨w, ps⟩) (ptk hq) h5 ?_ ⟨_, e3 _ _ upd_same⟩ rfl ⟨xl, e3 _ _ hl2⟩ hql hgl (Tabs.keep O.tb kp h1 (fun ps z => by cases z) (fun φ z => by cases z)) ?_ ?_ ?_ ?_ ?_
      · show Hist l H3 (hs.take ps.length) ps.reverse
        have h7 := Paired.tk ps.length h6'
        have e : (ps.reverse ++ [w]).take ps.length = ps.reverse := by
          rw [List.take_append_of_le_length (by rw [List.length_reverse]; exact Nat.le_refl _), List.take_of_length_le (by rw [List.length_reverse]; exact Nat.le_refl _)]
        rw [e] at h7
        exact Paired.to (fun v w ⟨q, c1, c2, c3⟩ => ⟨q, c1, ptk c2, c3⟩) h7
      · exact O.psm w (by show w ∈ a.past; rw [hpast]; exact List.mem_cons_self ..)
      · exact O.ple w (by show w ∈ a.past; rw [hpast]; exact List.mem_cons_self ..)
      · exact fun w' hw' => O.psm w' (by show w' ∈ a.past; rw [hpast]; exact List.mem_cons_of_mem _ hw')
      · exact fun w' hw' => O.ple w' (by show w' ∈ a.past; rw [hpast]; exact List.mem_cons_of_mem _ hw')
      · have := O.few
        have h8 : a.past.length ≤ 10 := this
        rw [hpast, List.length_cons] at h8
        show ps.length ≤ 10
        omega
    refine s_retL (el_one (ev_lenE T O3 (ev_var rfl))) fun r H4 hr e4 h9 => ?_
    exact k r H4 (KeepN.of (kp.trans (Keep.put.trans (Keep.ex e4)))) (O3.mono e4) h9
def sp_Session_state (K : PySem.W.Frag) (C A P1 P2 P3 : Addr) : Sp := fun vs H Q _ => ∃ l s a, vs = [.ref s] ∧ Obj C l (tabsT P1 P2 P3) H s (some a) ∧ RetM C l (tabsT P1 P2 P3) s (some (a.does .state).1, Kv413Neutral.row (a.does .state).2) H Q
theorem len_Session_state : ∀ vs H Q E, sp_Session_state K C A P1 P2 P3 vs H Q E → vs.length = 1 := by
  rintro vs H Q E ⟨_, _, _, rfl, _⟩
  rfl
theorem pure_Session_state (T : Txt K mg C A P1 P2 P3) : ∀ vs H Q E, sp_Session_state K C A P1 P2 P3 vs H Q E → t_Session_state K C A P1 P2 P3 { nx := fun _ H' => Q .non H', rt := Q } (start N_Session_state vs) H := by
  rintro vs H Q E ⟨l, s, a, rfl, O, k⟩
  exact s_retL (el_two (ev_lenO T O (ev_var rfl)) (ev_lenE T O (ev_var rfl))) fun q H2 hq e2 h5 => (k.look O).go (Ex.refl H) hq e2 h5
end
end Lw

set_option Elab.async false
set_option linter.all false
set_option autoImplicit false
set_option maxRecDepth 100000
set_option maxHeartbeats 4000000
namespace Lw
open PySem PySem.Spec PyProof.Rows L2 Evl LamX
section
variable {K : PySem.W.Frag} {mg : Str → Option Value} {C A P1 P2 P3 l : Addr} {σ : L2.St} {H : Hp} {ta tb te tv : TE} {D : Ends} {tz : TS}
/-! ### long, longest, clock, most: rows are looked at -/
def fLong (es : List Evt) (i : Int) : List Int := [((now es).long i.toNat : Nat)]
def fLongest (es : List Evt) : List Int := [((now es).longest : Nat)]
def fClock (es : List Evt) : List Int := listed (now es).clock
def fMost (es : List Evt) : List Int := [((now es).most : Nat)]
def fClocks (es : List Evt) : List Int := ((now es).clocks.length : Int) :: (((now es).clocks.flatMap fun c => c.length :: c).map Int.ofNat)
def sp_row (C P1 P2 P3 : Addr) (f : List Evt → List Int) : Sp := fun vs H Q _ => ∃ l s a, vs = [.ref s] ∧ Obj C l (tabsT P1 P2 P3) H s (some a) ∧ RetM C l (tabsT P1 P2 P3) s (some a, f a.now.l) H Q
theorem len_row {f : List Evt → List Int} : ∀ vs H Q E, sp_row C P1 P2 P3 f vs H Q E → vs.length = 1 := by
  rintro vs H Q E ⟨_, _, _, rfl, _⟩
  rfl
def sp_Session_long (K : PySem.W.Frag) (C A P1 P2 P3 : Addr) : Sp := fun vs H Q _ => ∃ l s a i, vs = [.ref s, .int i] ∧ 0 ≤ i ∧ Obj C l (tabsT P1 P2 P3) H s (some a) ∧ RetM C l (tabsT P1 P2 P3) s (some a, one a.now.l i (fLong a.now.l i)) H Q
theorem len_Session_long : ∀ vs H Q E, sp_Session_long K C A P1 P2 P3 vs H Q E → vs.length = 2 := by
  rintro vs H Q E ⟨_, _, _, _, rfl, _⟩
  rfl
theorem pure_Session_long (T : Txt K mg C A P1 P2 P3) : ∀ vs H Q E, sp_Session_long K C A P1 P2 P3 vs H Q E → t_Session_long K C A P1 P2 P3 (sp_row_lengths K C A P1 P2 P3) (sp_Session_has K C A P1 P2 P3) { nx := fun _ H' => Q .non H', rt := Q } (start N_Session_long vs) H := by
  rintro vs H Q E ⟨l, s, a, i, rfl, hi, O, k⟩
  refine q_when (et_not (et_B (ev_has O.sess (ev_var rfl) (ev_var rfl)))) (fun hb H1 e1 => ?_) (fun hb H1 e1 => ?_)
  · have hb' : hasB a.now.l i = false := by
      rw [Bool.not_eq_true'] at hb
      exact hb
    rw [one_no hi hb'] at k
    exact s_retL (el_one ev_c) fun p H2 hp e2 h2 => (k.look O).go e1 hp e2 h2
  have hb' : hasB a.now.l i = true := by
    rw [Bool.not_eq_false'] at hb
    exact hb
  rw [one_yes hi hb'] at k
  rw [hasB_iff] at hb'
  have O1 := O.mono e1
  have k1 := k.mono e1
  have hil : i.toNat < a.now.l.length := by omega
  obtain ⟨dx, p, h, hs, h1, h2, _⟩ := O1.ex
  refine ev_points (σ := start N_Session_long [.ref s, .int i]) (ta := tVar 0) T (ev_var rfl) h1 H1 (Ex.refl H1) _ fun H2 e2 => ?_
  refine ⟨p, a.now.l, rfl, h2.ex e2, O.le, O1.tb.ext e2, fun q H3 xN hT3 hq => ⟨.int i, rfl, q, _, i, .int ((now a.now.l).long i.toNat : Nat), rfl, rfl, sq_of hq, at_of (j := i.toNat) (by omega) (longs_at hil), by show 1 ≤ sizeLine; decide, fun r hr => ?_⟩⟩
  exact (k1.mono e2).lookN (O1.mono e2) r _ (xN.trans (ExtN.of (Ex.new hr))) (hT3.ext (Ex.new hr)) upd_same
def sp_Session_longest (K : PySem.W.Frag) (C A P1 P2 P3 : Addr) : Sp := sp_row C P1 P2 P3 fLongest
def sp_Session_clock (K : PySem.W.Frag) (C A P1 P2 P3 : Addr) : Sp := sp_row C P1 P2 P3 fClock
def sp_Session_most (K : PySem.W.Frag) (C A P1 P2 P3 : Addr) : Sp := sp_row C P1 P2 P3 fMost
def sp_Session_clocks (K : PySem.W.Frag) (C A P1 P2 P3 : Addr) : Sp := sp_row C P1 P2 P3 fClocks
theorem len_Session_longest : ∀ vs H Q E, sp_Session_longest K C A P1 P2 P3 vs H Q E → vs.length = 1 := len_row
theorem len_Session_clock : ∀ vs H Q E, sp_Session_clock K C A P1 P2 P3 vs H Q E → vs.length = 1 := len_row
theorem len_Session_most : ∀ vs H Q E, sp_Session_most K C A P1 P2 P3 vs H Q E → vs.length = 1 := len_row
theorem len_Session_clocks : ∀ vs H Q E, sp_Session_clocks K C A P1 P2 P3 vs H Q E → vs.length = 1 := len_row
theorem pure_Session_longest (T : Txt K mg C A P1 P2 P3) : ∀ vs H Q E, sp_Session_longest K C A P1 P2 P3 vs H Q E → t_Session_longest K C A P1 P2 P3 (sp_longest_row K C A P1 P2 P3) { nx := fun _ H' => Q .non H', rt := Q } (start N_Session_longest vs) H := by
  rintro vs H Q E ⟨l, s, a, rfl, O, k⟩
  obtain ⟨dx, p, h, hs, h1, h2, _⟩ := O.ex
  refine ev_points (σ := start N_Session_longest [.ref s]) (ta := tVar 0) T (ev_var rfl) h1 H (Ex.refl H) _ fun H2 e2 => ?_
  refine ⟨p, a.now.l, rfl, h2.ex e2, O.le, O.tb.ext e2, fun H3 xN hT3 => ⟨by show 1 ≤ sizeLine; decide, fun r hr => ?_⟩⟩
  exact (k.mono e2).lookN (O.mono e2) r _ (xN.trans (ExtN.of (Ex.new hr))) (hT3.ext (Ex.new hr)) upd_same
theorem pure_Session_most (T : Txt K mg C A P1 P2 P3) : ∀ vs H Q E, sp_Session_most K C A P1 P2 P3 vs H Q E → t_Session_most K C A P1 P2 P3 (sp_most_apart K C A P1 P2 P3) { nx := fun _ H' => Q .non H', rt := Q } (start N_Session_most vs) H := by
  rintro vs H Q E ⟨l, s, a, rfl, O, k⟩
  obtain ⟨dx, p, h, hs, h1, h2, _⟩ := O.ex
  refine ev_points (σ := start N_Session_most [.ref s]) (ta := tVar 0) T (ev_var rfl) h1 H (Ex.refl H) _ fun H2 e2 => ?_
  refine ⟨p, a.now.l, rfl, h2.ex e2, O.le, O.tb.ext e2, fun H3 xN hT3 => ⟨by show 1 ≤ sizeLine; decide, fun r hr => ?_⟩⟩
  exact (k.mono e2).lookN (O.mono e2) r _ (xN.trans (ExtN.of (Ex.new hr))) (hT3.ext (Ex.new hr)) upd_same
theorem clock_len (es : List Evt) (h : es.length ≤ 10) : (now es).clock.length ≤ 100 := by
  by_cases h0 : (now es).l = []
  · rw [La.clock_nil h0]
    exact Nat.zero_le _
  · obtain ⟨j, h1, h2⟩ := La.longest_at h0
    cases hf : (now es).all.find? (fun j => (now es).long j == (now es).longest) with
    | none =>
      have e : (now es).clock = [] := by
        unfold Kv413.Now.clock
        rw [hf]
      rw [e]
      exact Nat.zero_le _
    | some i =>
      have e : (now es).clock = La.rowTo (now es) i := by
        unfold Kv413.Now.clock
        rw [hf]
        rfl
      obtain ⟨q1, _, _⟩ := La.find_least hf
      have hl := La.long_le q1
      have hl' : (now es).long i ≤ es.length := hl
      rw [e, La.rowTo_len _ i (Nat.le_refl _) q1]
      omega
theorem pure_Session_clock (T : Txt K mg C A P1 P2 P3) : ∀ vs H Q E, sp_Session_clock K C A P1 P2 P3 vs H Q E → t_Session_clock K C A P1 P2 P3 (sp_counted K C A P1 P2 P3) (sp_clock_of K C A P1 P2 P3) { nx := fun _ H' => Q .non H', rt := Q } (start N_Session_clock vs) H := by
  rintro vs H Q E ⟨l, s, a, rfl, O, k⟩
  obtain ⟨dx, p, h, hs, h1, h2, _⟩ := O.ex
  refine ev_points (σ := start N_Session_clock [.ref s]) (ta := tVar 0) T (ev_var rfl) h1 H (Ex.refl H) _ fun H2 e2 => ?_
  refine ⟨p, a.now.l, rfl, h2.ex e2, O.le, O.tb.ext e2, fun q H3 xN hT3 hq => ?_⟩
  have hcl : (now a.now.l).clock.length ≤ 10000000 := Nat.le_trans (clock_len a.now.l O.le) (by decide)
  refine spl_listed (K := K) (C := C) (A := A) (P1 := P1) (P2 := P2) (P3 := P3) hq hcl H3 (Ex.refl H3) _ (fun r H4 hr e4 h4 => ?_) E0
  exact (k.mono e2).lookN (O.mono e2) r _ (xN.trans (ExtN.of e4)) (hT3.ext e4) h4
/-! ### clocks -/
theorem flat_clocks {c : List (List Nat)} {m : Nat} {q : List Nat} (h : c[m]? = some q) : (c.take (m + 1)).flatMap (fun c => c.length :: c) = (c.take m).flatMap (fun c => c.length :: c) ++ (q.length :: q) := by
  rw [List.take_succ, h, List.flatMap_append]
  show _ ++ (q.length :: q ++ []) = _
  rw [List.append_nil]
theorem flat_clocks_len : ∀ c : List (List Nat), (c.flatMap fun c => c.length :: c).length = c.length + c.flatten.length
  | [] => rfl
  | q :: c => by
    show ((q.length :: q) ++ (c.flatMap fun c => c.length :: c)).length = _
    rw [List.length_append, flat_clocks_len c, List.flatten_cons, List.length_append, List.length_cons, List.length_cons]
    omega
theorem clocks_laid (es : List Evt) : La.Laid es.length es.length (now es).clocks := by
  have hb := La.byLight_perm (now es)
  have hlt : ∀ x ∈ (now es).byLight, x < es.length := fun x hx => La.mem_all.mp (hb.mem_iff.mp hx)
  have hl : (now es).byLight.length = es.length := by
    rw [hb.length_eq]
    unfold Kv413.Now.all
    exact List.length_range
  have main : ∀ (o : List Nat) (c : List (List Nat)) (m : Nat), (∀ x ∈ o, x < es.length) → La.Laid es.length m c → La.Laid es.length (m + o.length) (o.foldl (now es).put c) := by
    intro o
    induction o with
    | nil =>
      intro c m _ h
      exact h
    | cons x o ih =>
      intro c m hx h
      have h1 := La.laid_put (a := now es) h (hx x (List.mem_cons_self ..))
      have h2 := ih _ (m + 1) (fun y hy => hx y (List.mem_cons_of_mem _ hy)) h1
      have e : m + (x :: o).length = m + 1 + o.length := by
        rw [List.length_cons]
        omega
      rw [e]
      exact h2
  have := main (now es).byLight [] 0 hlt (La.laid_nil _)
  rw [hl, Nat.zero_add] at this
  exact this
theorem pure_Session_clocks (T : Txt K mg C A P1 P2 P3) : ∀ vs H Q E, sp_Session_clocks K C A P1 P2 P3 vs H Q E → t_Session_clocks K C A P1 P2 P3 (sp_clocks_for_all K C A P1 P2 P3) (sp_counted K C A P1 P2 P3) { nx := fun _ H' => Q .non H', rt := Q } (start N_Session_clocks vs) H := by
  rintro vs H Q E ⟨l, s, a, rfl, O, k⟩
  obtain ⟨dx, p, h, hs, h1, h2, _⟩ := O.ex
  refine ev_points (σ := start N_Session_clocks [.ref s]) (ta := tVar 0) T (ev_var rfl) h1 H (Ex.refl H) _ fun H2 e2 => ?_
  refine ⟨p, a.now.l, rfl, h2.ex e2, O.le, O.tb.ext e2, fun q ws H3 xN hT3 hq hli => ?_⟩
  have k2 := k.mono e2
  have O2 := O.mono e2
  have hla := clocks_laid a.now.l
  have hle : a.now.l.length ≤ 10 := O.le
  unfold fClocks at k2
  generalize (now a.now.l).clocks = c at hli hla k2
  have hcl := Paired.len hli
  have hcf := hla.few
  have hcs := hla.sum
  show tSeq _ _ _ [some (.ref s), some (.ref q), none, none] H3
  refine q_asgL (xs := nums [c.length]) (el_is (el_lst (ea_cons (ev_lenL (ev_var rfl) hq) ea_nil) (by show 1 ≤ 100000; decide)) (by rw [hcl]; rfl)) fun L H4 hL x4 h4 => ?_
  refine q_forLn (xs := ws) (ev_var rfl) (sq_of (x4 _ _ hq)) (fun m σ' H' => ∃ o3 : Option V, σ' = [some (.ref s), some (.ref q), some (.ref L), o3] ∧ Ex H3 H' ∧ H' L = some (.lst (nums (c.length :: (c.take m).flatMap fun c => c.length :: c)))) (fun H5 x5 => ⟨none, rfl, x4.trans x5, x5 _ _ h4⟩) ?_ ?_ ?_
  · rintro m σ' H' _ ⟨_, _, x, _⟩
    exact sq_of (x _ _ hq)
  · rintro m x σ' H' hx ⟨o3, rfl, x5, h5⟩
    obtain ⟨ql, hql, r, rfl, hr⟩ := Paired.at2 hli hx
    have hqm : ql ∈ c := List.mem_of_getElem? hql
    have hqlen : ql.length ≤ 10 := by
      have := La.len_flatten hqm
      omega
    have hr5 := x5 _ _ hr
    have hlen1 : (nums (c.length :: (c.take m).flatMap fun c => c.length :: c)).length ≤ 100 := by
      unfold nums
      rw [List.length_map, List.length_cons, flat_clocks_len]
      have t1 : (c.take m).length ≤ c.length := by
        rw [List.length_take]
        omega
      have t2 : (c.take m).flatten.length ≤ c.flatten.length := by
        have e : c.flatten = (c.take m).flatten ++ (c.drop m).flatten := by
          rw [← List.flatten_append, List.take_append_drop]
        rw [e, List.length_append]
        omega
      omega
    show tDrop _ _ [some (.ref s), some (.ref q), some (.ref L), some (.ref r)] H'
    -- told.extend(counted(clock))
    refine ⟨_, rfl, Or.inl ⟨rfl, _, sq_of h5⟩, ?_⟩
    refine ⟨_, rfl, ?_⟩
    refine spl_listed (K := K) (C := C) (A := A) (P1 := P1) (P2 := P2) (P3 := P3) hr5 (by omega) H' (Ex.refl H') _ (fun u H6 hu e6 h6 => ?_) E0
    refine ⟨L, u, _, _, rfl, rfl, e6 _ _ h5, h6, ?_, ?_⟩
    · have : (100000 : Nat) ≤ sizeLine := by decide
      have e2 : ((listed ql).map V.int).length = ql.length + 1 := by
        unfold listed
        rw [List.length_map, List.length_cons, List.length_map]
      rw [e2]
      omega
    · refine ⟨_, rfl, Ex.mut (x5.trans e6) hL, ?_⟩
      rw [flat_clocks hql]
      refine upd_same.trans ?_
      unfold listed nums
      simp only [List.map_cons, List.map_append, List.map_map, List.cons_append]
      rfl
  · rintro σ' H' ⟨o3, rfl, x5, h5⟩
    rw [hcl, List.take_length] at h5
    refine s_ret (ev_var rfl) fun H6 x6 => k2.lookN O2 L H6 (xN.trans (ExtN.of (x5.trans x6))) (hT3.ext (x5.trans x6)) ?_
    refine (x6 _ _ h5).trans ?_
    unfold nums
    rw [List.map_cons, List.map_cons, List.map_map]
    rfl
end
end Lw

set_option Elab.async false
set_option linter.all false
set_option autoImplicit false
set_option maxRecDepth 100000
set_option maxHeartbeats 4000000
namespace Lw
open PySem PySem.Spec PyProof.Rows L2 Evl LamX
section
variable {K : PySem.W.Frag} {mg : Str → Option Value} {C A P1 P2 P3 l : Addr} {σ : L2.St} {H : Hp} {ta tb te tv : TE} {D : Ends} {tz : TS}
/-! ### the calls told apart -/
theorem s_retM {s dx : Addr} {fs : List (Str × V)} {m : Str} {sp : Sp} {E : XK} {vs : List V} {t : TA} {nx : L2.St → Hp → Prop} {Q : VK} (h : Ev ta σ H (.ref s)) (ho : H s = some (.ins C dx fs)) (hl : fs.lookup m = none) (ht : EvA t σ H vs) (k : ∀ H1, Ex H H1 → sp (.ref s :: vs) H1 Q E) : tRet (tMeth C m sp [] E ta t) { nx := nx, rt := Q } σ H :=
  h H (Ex.refl H) _ fun H2 e2 => ⟨s, dx, fs, rfl, e2 _ _ ho, hl, ht H2 e2 _ fun H3 e3 => by
    rw [List.append_nil]
    exact k H3 (e2.trans e3)⟩
theorem s_retC {sp : Sp} {E : XK} {vs : List V} {t : TA} {nx : L2.St → Hp → Prop} {Q : VK} (ht : EvA t σ H vs) (k : ∀ H1, Ex H H1 → sp vs H1 Q E) : tRet (tCall sp [] E t) { nx := nx, rt := Q } σ H :=
  ht H (Ex.refl H) _ fun H3 e3 => by
    rw [List.append_nil]
    exact k H3 e3
theorem ev_arg {g : Addr} {as : List Int} {i : Nat} {x : Int} (h : Ev ta σ H (.ref g)) (hg : H g = some (.lst (as.map V.int))) (hx : as[i]? = some x) : Ev (tOp (rIxL K) ta (tC (.int (i : Int)))) σ H (.int x) :=
  ev_op h ev_c (rv_ixL (sq_of hg) (at_of rfl (by rw [List.getElem?_map, hx]; rfl)))
theorem q_eq {n m : Int} {i : Nat} {tu : TS} (h : σ[i]? = some (some (.int n))) (h1 : n = m → ∀ H1, Ex H H1 → tu { D with nx := tz D } σ H1) (h2 : n ≠ m → ∀ H1, Ex H H1 → tz D σ H1) : tSeq (tIfS (tTest (tOp rEq (tVar i) (tC (.int m)))) tu tNext) tz D σ H :=
  q_when (et_test (ev_eqI (ev_var h) ev_c)) (fun hb => h1 (of_decide_eq_true hb)) (fun hb => h2 (of_decide_eq_false hb))
/-- a call's numbers from 0 on -/
theorem in_first {p i : Int} {r : List Int} {b : List (Int × Int)} (h : La.inCall [p :: i :: r] = true) (hb : PyKv413.bound p = ((0, 4294967295) :: b, [])) : 0 ≤ i := by
  unfold La.inCall at h
  have h2 : (PyInside.each (PyKv413.bound p).1 (i :: r) && PyInside.lists (PyKv413.bound p).2 []) = true := h
  rw [hb, Bool.and_eq_true] at h2
  have h3 : (PyInside.within 0 4294967295 i && PyInside.each b r) = true := h2.1
  rw [Bool.and_eq_true] at h3
  have h4 : (decide (0 ≤ i) && decide (i ≤ 4294967295)) = true := h3.1
  rw [Bool.and_eq_true] at h4
  exact of_decide_eq_true h4.1
theorem in_second {p i j : Int} {r : List Int} {c : Int × Int} {b : List (Int × Int)} (h : La.inCall [p :: i :: j :: r] = true) (hb : PyKv413.bound p = (c :: (0, 4294967295) :: b, [])) : 0 ≤ j := by
  unfold La.inCall at h
  have h2 : (PyInside.each (PyKv413.bound p).1 (i :: j :: r) && PyInside.lists (PyKv413.bound p).2 []) = true := h
  rw [hb, Bool.and_eq_true] at h2
  have h3 : (PyInside.within c.1 c.2 i && (PyInside.within 0 4294967295 j && PyInside.each b r)) = true := h2.1
  rw [Bool.and_eq_true, Bool.and_eq_true] at h3
  have h4 : (decide (0 ≤ j) && decide (j ≤ 4294967295)) = true := h3.2.1
  rw [Bool.and_eq_true] at h4
  exact of_decide_eq_true h4.1
theorem len0 {as : List Int} (h : 0 = as.length) : as = [] := List.eq_nil_of_length_eq_zero h.symm
theorem len1 {as : List Int} (h : 1 = as.length) : ∃ x, as = [x] := match as, h with | [x], _ => ⟨x, rfl⟩
theorem len2 {as : List Int} (h : 2 = as.length) : ∃ x y, as = [x, y] := match as, h with | [x, y], _ => ⟨x, y, rfl⟩
theorem len3 {as : List Int} (h : 3 = as.length) : ∃ x y z, as = [x, y, z] := match as, h with | [x, y, z], _ => ⟨x, y, z, rfl⟩
theorem shape_len {p : Int} {as : List Int} {n : Nat} (h : PyKv413.shape p = some (as.length, 0)) (hn : PyKv413.shape p = some (n, 0)) : n = as.length := by
  rw [hn] at h
  injection h with h
  injection h
/-- what change, look and answer are asked -/
structure Asked (H : Hp) (g : Addr) (p : Int) (as : List Int) : Prop where
  at_ : H g = some (.lst (as.map V.int))
  sh : PyKv413.shape p = some (as.length, 0)
  inn : La.inCall [p :: as] = true
theorem Asked.mono {g : Addr} {p : Int} {as : List Int} {H1 : Hp} (x : Ex H H1) (h : Asked H g p as) : Asked H1 g p as := ⟨x _ _ h.at_, h.sh, h.inn⟩
def sp_in (C P1 P2 P3 : Addr) (lo hi : Int) : Sp := fun vs H Q _ => ∃ l s a p as g, vs = [.ref s, .int p, .ref g] ∧ Obj C l (tabsT P1 P2 P3) H s (some a) ∧ Asked H g p as ∧ lo ≤ p ∧ p ≤ hi ∧ RetM C l (tabsT P1 P2 P3) s (Kv413Neutral.step (some a) [p :: as]) H Q
theorem len_in {lo hi : Int} : ∀ vs H Q E, sp_in C P1 P2 P3 lo hi vs H Q E → vs.length = 3 := by
  rintro vs H Q E ⟨_, _, _, _, _, _, rfl, _⟩
  rfl
def sp_change (K : PySem.W.Frag) (C A P1 P2 P3 : Addr) : Sp := sp_in C P1 P2 P3 1 4
def sp_tell_heard (K : PySem.W.Frag) (C A P1 P2 P3 : Addr) : Sp := sp_in C P1 P2 P3 6 12
def sp_tell_light (K : PySem.W.Frag) (C A P1 P2 P3 : Addr) : Sp := sp_in C P1 P2 P3 13 16
def sp_tell_rows (K : PySem.W.Frag) (C A P1 P2 P3 : Addr) : Sp := sp_in C P1 P2 P3 17 21
def sp_answer (K : PySem.W.Frag) (C A P1 P2 P3 : Addr) : Sp := fun vs H Q _ => ∃ l s st p as g, vs = [.ref s, .int p, .ref g] ∧ Obj C l (tabsT P1 P2 P3) H s st ∧ Asked H g p as ∧ 0 ≤ p ∧ p ≤ 23 ∧ RetM C l (tabsT P1 P2 P3) s (Kv413Neutral.step st [p :: as]) H Q
theorem len_change : ∀ vs H Q E, sp_change K C A P1 P2 P3 vs H Q E → vs.length = 3 := len_in
theorem len_tell_heard : ∀ vs H Q E, sp_tell_heard K C A P1 P2 P3 vs H Q E → vs.length = 3 := len_in
theorem len_tell_light : ∀ vs H Q E, sp_tell_light K C A P1 P2 P3 vs H Q E → vs.length = 3 := len_in
theorem len_tell_rows : ∀ vs H Q E, sp_tell_rows K C A P1 P2 P3 vs H Q E → vs.length = 3 := len_in
theorem len_answer : ∀ vs H Q E, sp_answer K C A P1 P2 P3 vs H Q E → vs.length = 3 := by
  rintro vs H Q E ⟨_, _, _, _, _, _, rfl, _⟩
  rfl
theorem pure_change (T : Txt K mg C A P1 P2 P3) : ∀ vs H Q E, sp_change K C A P1 P2 P3 vs H Q E → t_change K C A P1 P2 P3 (sp_Session_put K C A P1 P2 P3) (sp_Session_drop K C A P1 P2 P3) (sp_Session_move K C A P1 P2 P3) (sp_Session_turn K C A P1 P2 P3) { nx := fun _ H' => Q .non H', rt := Q } (start N_change vs) H := by
  rintro vs H Q E ⟨l, s, a, p, as, g, rfl, O, ⟨hg, hs, hin⟩, hp1, hp2, k⟩
  obtain ⟨dx, fs, h1, h2⟩ := O.at_
  refine q_eq rfl (fun e H1 e1 => ?_) (fun ne1 H1 e1 => ?_)
  · subst e
    obtain ⟨t, x, rfl⟩ := len2 (shape_len hs rfl)
    refine s_retM (ev_var rfl) (e1 _ _ h1) (lookup_none h2 (by decide +kernel)) (ea_cons (ev_arg (i := 0) (ev_var rfl) (e1 _ _ hg) rfl) (ea_cons (ev_arg (i := 1) (ev_var rfl) (e1 _ _ hg) rfl) ea_nil)) fun H2 e2 => ?_
    exact ⟨l, s, a, t, x, rfl, O.mono (e1.trans e2), (k.mono (e1.trans e2)).is (La.step_some a rfl)⟩
  refine q_eq rfl (fun e H2 e2 => ?_) (fun ne2 H2 e2 => ?_)
  · subst e
    obtain ⟨i, rfl⟩ := len1 (shape_len hs rfl)
    have x2 := e1.trans e2
    refine s_retM (ev_var rfl) (x2 _ _ h1) (lookup_none h2 (by decide +kernel)) (ea_cons (ev_arg (i := 0) (ev_var rfl) (x2 _ _ hg) rfl) ea_nil) fun H3 e3 => ?_
    exact ⟨l, s, a, i, rfl, in_first hin rfl, O.mono (x2.trans e3), (k.mono (x2.trans e3)).is (La.step_some a rfl)⟩
  refine q_eq rfl (fun e H3 e3 => ?_) (fun ne3 H3 e3 => ?_)
  · subst e
    obtain ⟨i, t, x, rfl⟩ := len3 (shape_len hs rfl)
    have x3 := (e1.trans e2).trans e3
    refine s_retM (ev_var rfl) (x3 _ _ h1) (lookup_none h2 (by decide +kernel)) (ea_cons (ev_arg (i := 0) (ev_var rfl) (x3 _ _ hg) rfl) (ea_cons (ev_arg (i := 1) (ev_var rfl) (x3 _ _ hg) rfl) (ea_cons (ev_arg (i := 2) (ev_var rfl) (x3 _ _ hg) rfl) ea_nil))) fun H4 e4 => ?_
    exact ⟨l, s, a, i, t, x, rfl, in_first hin rfl, O.mono (x3.trans e4), (k.mono (x3.trans e4)).is (La.step_some a rfl)⟩
  have e : p = 4 := by omega
  subst e
  obtain rfl := len0 (shape_len hs rfl)
  have x3 := (e1.trans e2).trans e3
  refine s_retM (ev_var rfl) (x3 _ _ h1) (lookup_none h2 (by decide +kernel)) ea_nil fun H4 e4 => ?_
  exact ⟨l, s, a, rfl, O.mono (x3.trans e4), (k.mono (x3.trans e4)).is (La.step_some a rfl)⟩
/-- the machine's state and answer of a call that only looks at two events, at one -/
theorem look_two {a : Kv413.Abs} {i j : Int} {x : Kv413.Ans} : ((if a.now.no i.toNat = true ∨ a.now.no j.toNat = true then (a, Kv413.say (-2)) else (a, x) : Kv413.Abs × Kv413.Ans)) = (a, if a.now.no i.toNat = true ∨ a.now.no j.toNat = true then Kv413.say (-2) else x) := by
  split <;> rfl
theorem look_one {a : Kv413.Abs} {i : Int} {x : Kv413.Ans} : ((if a.now.no i.toNat = true then (a, Kv413.say (-2)) else (a, x) : Kv413.Abs × Kv413.Ans)) = (a, if a.now.no i.toNat = true then Kv413.say (-2) else x) := by
  split <;> rfl
theorem step_two {a : Kv413.Abs} {c : List (List Int)} {k : Kv413.Call} {i j : Int} {x : Kv413.Ans} (hc : Kv413Neutral.callOf c = some k) (h : a.does k = if a.now.no i.toNat = true ∨ a.now.no j.toNat = true then (a, Kv413.say (-2)) else (a, x)) {l : List Int} (hl : Kv413Neutral.row x = l) :
    Kv413Neutral.step (some a) c = (some a, two a.now.l i j l) := by
  subst hl
  rw [La.step_some a hc, h, look_two]
  unfold two
  show (some a, Kv413Neutral.row (if a.now.no i.toNat = true ∨ a.now.no j.toNat = true then Kv413.say (-2) else x)) = _
  congr 1
  show _ = if a.now.no i.toNat = true ∨ a.now.no j.toNat = true then [-2] else Kv413Neutral.row x
  split <;> rfl
theorem step_one {a : Kv413.Abs} {c : List (List Int)} {k : Kv413.Call} {i : Int} {x : Kv413.Ans} (hc : Kv413Neutral.callOf c = some k) (h : a.does k = if a.now.no i.toNat = true then (a, Kv413.say (-2)) else (a, x)) {l : List Int} (hl : Kv413Neutral.row x = l) :
    Kv413Neutral.step (some a) c = (some a, one a.now.l i l) := by
  subst hl
  rw [La.step_some a hc, h, look_one]
  unfold one
  show (some a, Kv413Neutral.row (if a.now.no i.toNat = true then Kv413.say (-2) else x)) = _
  congr 1
  show _ = if a.now.no i.toNat = true then [-2] else Kv413Neutral.row x
  split <;> rfl
/-- a method that looks, called by its name: the promise asked of it -/
theorem ask_two {s : Addr} {Tb : List (Addr × Str)} {a : Kv413.Abs} {i j : Int} {f : List Evt → Int → Int → List Int} {Q : VK} {E : XK} {r : Kv413.State × List Int} (O : Obj C l Tb H s (some a)) (hi : 0 ≤ i) (hj : 0 ≤ j) (e : r = (some a, two a.now.l i j (f a.now.l i j))) (k : RetM C l Tb s r H Q) : sp_two C f [.ref s, .int i, .int j] H Q E :=
  ⟨s, a.now.l, i, j, rfl, hi, hj, O.sess, (k.is e).look O⟩
theorem ask_one {s : Addr} {Tb : List (Addr × Str)} {a : Kv413.Abs} {i : Int} {f : List Evt → Int → List Int} {Q : VK} {E : XK} {r : Kv413.State × List Int} (O : Obj C l Tb H s (some a)) (hi : 0 ≤ i) (e : r = (some a, one a.now.l i (f a.now.l i))) (k : RetM C l Tb s r H Q) : sp_one C f [.ref s, .int i] H Q E :=
  ⟨s, a.now.l, i, rfl, hi, O.sess, (k.is e).look O⟩
/-- the numbers handed in -/
theorem ea_two {g : Addr} {i j : Int} {H1 : Hp} (h : σ[2]? = some (some (.ref g))) (hg : H1 g = some (.lst (([i, j] : List Int).map V.int))) : EvA (tCons (tOp (rIxL K) (tVar 2) (tC (.int 0))) (tCons (tOp (rIxL K) (tVar 2) (tC (.int 1))) tNil)) σ H1 [.int i, .int j] :=
  ea_cons (ev_arg (i := 0) (ev_var h) hg rfl) (ea_cons (ev_arg (i := 1) (ev_var h) hg rfl) ea_nil)
theorem ea_one {g : Addr} {i : Int} {H1 : Hp} (h : σ[2]? = some (some (.ref g))) (hg : H1 g = some (.lst (([i] : List Int).map V.int))) : EvA (tCons (tOp (rIxL K) (tVar 2) (tC (.int 0))) tNil) σ H1 [.int i] :=
  ea_cons (ev_arg (i := 0) (ev_var h) hg rfl) ea_nil
theorem ea_three {g : Addr} {i j m : Int} {H1 : Hp} (h : σ[2]? = some (some (.ref g))) (hg : H1 g = some (.lst (([i, j, m] : List Int).map V.int))) : EvA (tCons (tOp (rIxL K) (tVar 2) (tC (.int 0))) (tCons (tOp (rIxL K) (tVar 2) (tC (.int 1))) (tCons (tOp (rIxL K) (tVar 2) (tC (.int 2))) tNil))) σ H1 [.int i, .int j, .int m] :=
  ea_cons (ev_arg (i := 0) (ev_var h) hg rfl) (ea_cons (ev_arg (i := 1) (ev_var h) hg rfl) (ea_cons (ev_arg (i := 2) (ev_var h) hg rfl) ea_nil))
theorem pure_tell_heard (T : Txt K mg C A P1 P2 P3) : ∀ vs H Q E, sp_tell_heard K C A P1 P2 P3 vs H Q E → t_tell_heard K C A P1 P2 P3 (sp_Session_heard K C A P1 P2 P3) (sp_Session_kind K C A P1 P2 P3) (sp_Session_square K C A P1 P2 P3) (sp_Session_past K C A P1 P2 P3) (sp_Session_future K C A P1 P2 P3) (sp_Session_between K C A P1 P2 P3) (sp_Session_aside K C A P1 P2 P3) { nx := fun _ H' => Q .non H', rt := Q } (start N_tell_heard vs) H := by
  rintro vs H Q E ⟨l, s, a, p, as, g, rfl, O, ⟨hg, hs, hin⟩, hp1, hp2, k⟩
  obtain ⟨dx, fs, h1, h2⟩ := O.at_
  refine q_eq rfl (fun e H1 x => ?_) (fun n1 H1 e1 => ?_)
  · subst e
    obtain ⟨i, j, rfl⟩ := len2 (shape_len hs rfl)
    refine s_retM (ev_var rfl) (x _ _ h1) (lookup_none h2 (by decide +kernel)) (ea_two rfl (x _ _ hg)) fun H3 y => ?_
    exact ask_two (O.mono (x.trans y)) (in_first hin rfl) (in_second hin rfl) (step_two rfl rfl rfl) (k.mono (x.trans y))
  refine q_eq rfl (fun e H2 e2 => ?_) (fun n2 H2 e2 => ?_)
  · subst e
    obtain ⟨i, j, rfl⟩ := len2 (shape_len hs rfl)
    have x := e1.trans e2
    refine s_retM (ev_var rfl) (x _ _ h1) (lookup_none h2 (by decide +kernel)) (ea_two rfl (x _ _ hg)) fun H3 y => ?_
    exact ask_two (O.mono (x.trans y)) (in_first hin rfl) (in_second hin rfl) (step_two rfl rfl rfl) (k.mono (x.trans y))
  have e2 := e1.trans e2
  refine q_eq rfl (fun e H3 e3 => ?_) (fun n3 H3 e3 => ?_)
  · subst e
    obtain ⟨i, j, rfl⟩ := len2 (shape_len hs rfl)
    have x := e2.trans e3
    refine s_retM (ev_var rfl) (x _ _ h1) (lookup_none h2 (by decide +kernel)) (ea_two rfl (x _ _ hg)) fun H3 y => ?_
    exact ask_two (O.mono (x.trans y)) (in_first hin rfl) (in_second hin rfl) (step_two rfl rfl rfl) (k.mono (x.trans y))
  have e3 := e2.trans e3
  refine q_eq rfl (fun e H4 e4 => ?_) (fun n4 H4 e4 => ?_)
  · subst e
    obtain ⟨i, rfl⟩ := len1 (shape_len hs rfl)
    have x := e3.trans e4
    refine s_retM (ev_var rfl) (x _ _ h1) (lookup_none h2 (by decide +kernel)) (ea_one rfl (x _ _ hg)) fun H3 y => ?_
    exact ask_one (O.mono (x.trans y)) (in_first hin rfl) (step_one rfl rfl rfl) (k.mono (x.trans y))
  have e4 := e3.trans e4
  refine q_eq rfl (fun e H5 e5 => ?_) (fun n5 H5 e5 => ?_)
  · subst e
    obtain ⟨i, rfl⟩ := len1 (shape_len hs rfl)
    have x := e4.trans e5
    refine s_retM (ev_var rfl) (x _ _ h1) (lookup_none h2 (by decide +kernel)) (ea_one rfl (x _ _ hg)) fun H3 y => ?_
    exact ask_one (O.mono (x.trans y)) (in_first hin rfl) (step_one rfl rfl rfl) (k.mono (x.trans y))
  have e5 := e4.trans e5
  refine q_eq rfl (fun e H6 e6 => ?_) (fun n6 H6 e6 => ?_)
  · subst e
    obtain ⟨i, j, rfl⟩ := len2 (shape_len hs rfl)
    have x := e5.trans e6
    refine s_retM (ev_var rfl) (x _ _ h1) (lookup_none h2 (by decide +kernel)) (ea_two rfl (x _ _ hg)) fun H3 y => ?_
    exact ask_two (O.mono (x.trans y)) (in_first hin rfl) (in_second hin rfl) (step_two rfl rfl rfl) (k.mono (x.trans y))
  have x := e5.trans e6
  have e : p = 12 := by omega
  subst e
  obtain ⟨i, rfl⟩ := len1 (shape_len hs rfl)
  refine s_retM (ev_var rfl) (x _ _ h1) (lookup_none h2 (by decide +kernel)) (ea_one rfl (x _ _ hg)) fun H3 y => ?_
  exact ask_one (O.mono (x.trans y)) (in_first hin rfl) (step_one rfl rfl rfl) (k.mono (x.trans y))
theorem step_reach (a : Kv413.Abs) (i t x : Int) : Kv413Neutral.step (some a) [[15, i, t, x]] = (some a, one a.now.l i (fReach a.now.l i t x)) := by
  have e : Kv413Neutral.step (some a) [[15, i, t, x]] = (some (a.does (.reach i.toNat t x)).1, Kv413Neutral.row (a.does (.reach i.toNat t x)).2) := La.step_some a rfl
  rw [e]
  unfold Kv413.Abs.does one fReach
  simp only []
  show (some (if a.now.no i.toNat = true then (a, Kv413.say (-2)) else if Kv413.ok t = false ∨ Kv413.ok x = false then (a, Kv413.say (-22)) else (a, Kv413.num (Kv413.bit (Kv413.heard (a.now.at_ i.toNat) ⟨t, x⟩)))).1, Kv413Neutral.row (if a.now.no i.toNat = true then (a, Kv413.say (-2)) else if Kv413.ok t = false ∨ Kv413.ok x = false then (a, Kv413.say (-22)) else (a, Kv413.num (Kv413.bit (Kv413.heard (a.now.at_ i.toNat) ⟨t, x⟩)))).2) = (some a, if a.now.no i.toNat = true then [-2] else if Kv413.ok t = false ∨ Kv413.ok x = false then [-22] else [((Kv413.bit (Kv413.heard (a.now.at_ i.toNat) ⟨t, x⟩) : Nat) : Int)])
  split
  · rfl
  · split <;> rfl
theorem step_by (a : Kv413.Abs) (i t : Int) : Kv413Neutral.step (some a) [[16, i, t]] = (some a, one a.now.l i (fBy a.now.l i t)) := by
  have e : Kv413Neutral.step (some a) [[16, i, t]] = (some (a.does (.by_ i.toNat t)).1, Kv413Neutral.row (a.does (.by_ i.toNat t)).2) := La.step_some a rfl
  rw [e]
  show (some (if a.now.no i.toNat = true then (a, Kv413.say (-2)) else if Kv413.ok t = false then (a, Kv413.say (-22)) else if t < (a.now.at_ i.toNat).t then (a, Kv413.say (-33)) else (a, ⟨0, [(a.now.at_ i.toNat).x - (t - (a.now.at_ i.toNat).t), (a.now.at_ i.toNat).x + (t - (a.now.at_ i.toNat).t)]⟩) : Kv413.Abs × Kv413.Ans).1, Kv413Neutral.row (if a.now.no i.toNat = true then (a, Kv413.say (-2)) else if Kv413.ok t = false then (a, Kv413.say (-22)) else if t < (a.now.at_ i.toNat).t then (a, Kv413.say (-33)) else (a, ⟨0, [(a.now.at_ i.toNat).x - (t - (a.now.at_ i.toNat).t), (a.now.at_ i.toNat).x + (t - (a.now.at_ i.toNat).t)]⟩) : Kv413.Abs × Kv413.Ans).2) = (some a, if a.now.no i.toNat = true then [-2] else if Kv413.ok t = false then [-22] else if t < (a.now.at_ i.toNat).t then [-33] else [0, (a.now.at_ i.toNat).x - (t - (a.now.at_ i.toNat).t), (a.now.at_ i.toNat).x + (t - (a.now.at_ i.toNat).t)])
  split
  · rfl
  · split
    · rfl
    · split <;> rfl
theorem pure_tell_light (T : Txt K mg C A P1 P2 P3) : ∀ vs H Q E, sp_tell_light K C A P1 P2 P3 vs H Q E → t_tell_light K C A P1 P2 P3 (sp_Session_first K C A P1 P2 P3) (sp_Session_last K C A P1 P2 P3) (sp_Session_reach K C A P1 P2 P3) (sp_Session_by K C A P1 P2 P3) { nx := fun _ H' => Q .non H', rt := Q } (start N_tell_light vs) H := by
  rintro vs H Q E ⟨l, s, a, p, as, g, rfl, O, ⟨hg, hs, hin⟩, hp1, hp2, k⟩
  obtain ⟨dx, fs, h1, h2⟩ := O.at_
  refine q_eq rfl (fun e H1 x => ?_) (fun n1 H1 e1 => ?_)
  · subst e
    obtain ⟨i, j, rfl⟩ := len2 (shape_len hs rfl)
    refine s_retM (ev_var rfl) (x _ _ h1) (lookup_none h2 (by decide +kernel)) (ea_two rfl (x _ _ hg)) fun H3 y => ?_
    exact ask_two (O.mono (x.trans y)) (in_first hin rfl) (in_second hin rfl) (step_two rfl rfl rfl) (k.mono (x.trans y))
  refine q_eq rfl (fun e H2 e2 => ?_) (fun n2 H2 e2 => ?_)
  · subst e
    obtain ⟨i, j, rfl⟩ := len2 (shape_len hs rfl)
    have x := e1.trans e2
    refine s_retM (ev_var rfl) (x _ _ h1) (lookup_none h2 (by decide +kernel)) (ea_two rfl (x _ _ hg)) fun H3 y => ?_
    exact ask_two (O.mono (x.trans y)) (in_first hin rfl) (in_second hin rfl) (step_two rfl rfl rfl) (k.mono (x.trans y))
  have e2 := e1.trans e2
  refine q_eq rfl (fun e H3 e3 => ?_) (fun n3 H3 e3 => ?_)
  · subst e
    obtain ⟨i, t, m, rfl⟩ := len3 (shape_len hs rfl)
    have x := e2.trans e3
    refine s_retM (ev_var rfl) (x _ _ h1) (lookup_none h2 (by decide +kernel)) (ea_three rfl (x _ _ hg)) fun H3 y => ?_
    exact ⟨s, a.now.l, i, t, m, rfl, in_first hin rfl, (O.mono (x.trans y)).sess, ((k.mono (x.trans y)).is (step_reach a i t m)).look (O.mono (x.trans y))⟩
  have x := e2.trans e3
  have e : p = 16 := by omega
  subst e
  obtain ⟨i, t, rfl⟩ := len2 (shape_len hs rfl)
  refine s_retM (ev_var rfl) (x _ _ h1) (lookup_none h2 (by decide +kernel)) (ea_two rfl (x _ _ hg)) fun H3 y => ?_
  exact ⟨s, a.now.l, i, t, rfl, in_first hin rfl, (O.mono (x.trans y)).sess, ((k.mono (x.trans y)).is (step_by a i t)).look (O.mono (x.trans y))⟩
theorem pure_tell_rows (T : Txt K mg C A P1 P2 P3) : ∀ vs H Q E, sp_tell_rows K C A P1 P2 P3 vs H Q E → t_tell_rows K C A P1 P2 P3 (sp_Session_long K C A P1 P2 P3) (sp_Session_longest K C A P1 P2 P3) (sp_Session_clock K C A P1 P2 P3) (sp_Session_most K C A P1 P2 P3) (sp_Session_clocks K C A P1 P2 P3) { nx := fun _ H' => Q .non H', rt := Q } (start N_tell_rows vs) H := by
  rintro vs H Q E ⟨l, s, a, p, as, g, rfl, O, ⟨hg, hs, hin⟩, hp1, hp2, k⟩
  obtain ⟨dx, fs, h1, h2⟩ := O.at_
  refine q_eq rfl (fun e H1 x => ?_) (fun n1 H1 e1 => ?_)
  · subst e
    obtain ⟨i, rfl⟩ := len1 (shape_len hs rfl)
    refine s_retM (ev_var rfl) (x _ _ h1) (lookup_none h2 (by decide +kernel)) (ea_one rfl (x _ _ hg)) fun H3 y => ?_
    exact ⟨l, s, a, i, rfl, in_first hin rfl, O.mono (x.trans y), (k.mono (x.trans y)).is (step_one rfl rfl rfl)⟩
  refine q_eq rfl (fun e H2 e2 => ?_) (fun n2 H2 e2 => ?_)
  · subst e
    obtain rfl := len0 (shape_len hs rfl)
    have x := e1.trans e2
    refine s_retM (ev_var rfl) (x _ _ h1) (lookup_none h2 (by decide +kernel)) ea_nil fun H3 y => ?_
    exact ⟨l, s, a, rfl, O.mono (x.trans y), (k.mono (x.trans y)).is ((La.step_some (k := .longest) a rfl).trans rfl)⟩
  have e2 := e1.trans e2
  refine q_eq rfl (fun e H3 e3 => ?_) (fun n3 H3 e3 => ?_)
  · subst e
    obtain rfl := len0 (shape_len hs rfl)
    have x := e2.trans e3
    refine s_retM (ev_var rfl) (x _ _ h1) (lookup_none h2 (by decide +kernel)) ea_nil fun H3 y => ?_
    exact ⟨l, s, a, rfl, O.mono (x.trans y), (k.mono (x.trans y)).is ((La.step_some (k := .clock) a rfl).trans rfl)⟩
  have e3 := e2.trans e3
  refine q_eq rfl (fun e H4 e4 => ?_) (fun n4 H4 e4 => ?_)
  · subst e
    obtain rfl := len0 (shape_len hs rfl)
    have x := e3.trans e4
    refine s_retM (ev_var rfl) (x _ _ h1) (lookup_none h2 (by decide +kernel)) ea_nil fun H3 y => ?_
    exact ⟨l, s, a, rfl, O.mono (x.trans y), (k.mono (x.trans y)).is ((La.step_some (k := .most) a rfl).trans rfl)⟩
  have x := e3.trans e4
  have e : p = 21 := by omega
  subst e
  obtain rfl := len0 (shape_len hs rfl)
  refine s_retM (ev_var rfl) (x _ _ h1) (lookup_none h2 (by decide +kernel)) ea_nil fun H3 y => ?_
  exact ⟨l, s, a, rfl, O.mono (x.trans y), (k.mono (x.trans y)).is ((La.step_some (k := .clocks) a rfl).trans rfl)⟩
/-- before a begin -/
theorem step_not {p : Int} {as : List Int} (h : PyKv413.shape p = some (as.length, 0)) (h0 : p ≠ 0) : Kv413Neutral.step none [p :: as] = (none, [-11]) := by
  obtain ⟨_, h1, h2⟩ := La.shape_rows h
  rcases La.place_of ⟨h1, h2⟩ with rfl | rfl | rfl | rfl | rfl | rfl | rfl | rfl | rfl | rfl | rfl | rfl | rfl | rfl | rfl | rfl | rfl | rfl | rfl | rfl | rfl | rfl | rfl | rfl
  all_goals first
    | exact absurd rfl h0
    | exact La.step_none rfl (fun z => by cases z)
theorem step_begin (st : Kv413.State) : Kv413Neutral.step st [[0]] = (some ⟨⟨[]⟩, []⟩, [0]) := by
  cases st <;> rfl
theorem pure_answer (T : Txt K mg C A P1 P2 P3) : ∀ vs H Q E, sp_answer K C A P1 P2 P3 vs H Q E → t_answer K C A P1 P2 P3 (sp_change K C A P1 P2 P3) (sp_tell_heard K C A P1 P2 P3) (sp_tell_light K C A P1 P2 P3) (sp_tell_rows K C A P1 P2 P3) (sp_Session_begin K C A P1 P2 P3) (sp_Session_events K C A P1 P2 P3) (sp_Session_back K C A P1 P2 P3) (sp_Session_state K C A P1 P2 P3) { nx := fun _ H' => Q .non H', rt := Q } (start N_answer vs) H := by
  rintro vs H Q E ⟨l, s, st, p, as, g, rfl, O, ha, hp1, hp2, k⟩
  obtain ⟨dx, fs, h1, h2⟩ := O.at_
  obtain ⟨dx', q, hh, hs', g1, _⟩ := O.ex
  refine q_eq rfl (fun e H1 e1 => ?_) (fun n1 H1 e1 => ?_)
  · subst e
    obtain rfl := len0 (shape_len ha.sh rfl)
    refine s_retM (ev_var rfl) (e1 _ _ h1) (lookup_none h2 (by decide +kernel)) ea_nil fun H2 y => ?_
    exact ⟨l, s, st, rfl, O.mono (e1.trans y), (k.mono (e1.trans y)).is (step_begin st)⟩
  refine q_when (et_not (et_B (ev_fld (ev_var rfl) (e1 _ _ g1) T.cl_Session T.f_Session_begun (fs_begun _ q hh)))) (fun hb H2 e2 => ?_) (fun hb H2 e2 => ?_)
  · cases st with
    | some a => cases hb
    | none => exact s_retL (el_one ev_c) fun r H3 hr e3 h4 => ((k.is (step_not ha.sh n1)).look O).go (e1.trans e2) hr e3 h4
  cases st with
  | none => cases hb
  | some a =>
    have x2 := e1.trans e2
    have args : ∀ {H9 : Hp}, EvA (tCons (tVar 0) (tCons (tVar 1) (tCons (tVar 2) tNil))) (start N_answer [.ref s, .int p, .ref g]) H9 [.ref s, .int p, .ref g] := ea_cons (ev_var rfl) (ea_cons (ev_var rfl) (ea_cons (ev_var rfl) ea_nil))
    refine q_when (et_test (ev_op (ev_var rfl) ev_c rv_I0)) (fun hc H3 e3 => ?_) (fun hc H3 e3 => ?_)
    · have hc' : p ≤ 4 := of_decide_eq_true hc
      exact s_retC args fun H4 e4 =>
        ⟨l, s, a, p, as, g, rfl, O.mono ((x2.trans e3).trans e4), ha.mono ((x2.trans e3).trans e4), by omega, hc', k.mono ((x2.trans e3).trans e4)⟩
    have hc' : ¬ p ≤ 4 := of_decide_eq_false hc
    have x3 := x2.trans e3
    refine q_eq rfl (fun e H4 e4 => ?_) (fun n5 H4 e4 => ?_)
    · subst e
      obtain rfl := len0 (shape_len ha.sh rfl)
      have x := x3.trans e4
      refine s_retM (ev_var rfl) (x _ _ h1) (lookup_none h2 (by decide +kernel)) ea_nil fun H5 y => ?_
      exact ⟨s, a.now.l, rfl, O.sess.mono (x.trans y), ((k.mono (x.trans y)).is (La.step_some a rfl)).look (O.mono (x.trans y))⟩
    have x4 := x3.trans e4
    refine q_when (et_test (ev_op (ev_var rfl) ev_c rv_I0)) (fun hd H5 e5 => ?_) (fun hd H5 e5 => ?_)
    · have hd' : p ≤ 12 := of_decide_eq_true hd
      exact s_retC args fun H6 e6 =>
        ⟨l, s, a, p, as, g, rfl, O.mono ((x4.trans e5).trans e6), ha.mono ((x4.trans e5).trans e6), by omega, hd', k.mono ((x4.trans e5).trans e6)⟩
    have hd' : ¬ p ≤ 12 := of_decide_eq_false hd
    have x5 := x4.trans e5
    refine q_when (et_test (ev_op (ev_var rfl) ev_c rv_I0)) (fun hf H6 e6 => ?_) (fun hf H6 e6 => ?_)
    · have hf' : p ≤ 16 := of_decide_eq_true hf
      exact s_retC args fun H7 e7 =>
        ⟨l, s, a, p, as, g, rfl, O.mono ((x5.trans e6).trans e7), ha.mono ((x5.trans e6).trans e7), by omega, hf', k.mono ((x5.trans e6).trans e7)⟩
    have hf' : ¬ p ≤ 16 := of_decide_eq_false hf
    have x6 := x5.trans e6
    refine q_when (et_test (ev_op (ev_var rfl) ev_c rv_I0)) (fun hr H7 e7 => ?_) (fun hr H7 e7 => ?_)
    · have hr' : p ≤ 21 := of_decide_eq_true hr
      exact s_retC args fun H8 e8 =>
        ⟨l, s, a, p, as, g, rfl, O.mono ((x6.trans e7).trans e8), ha.mono ((x6.trans e7).trans e8), by omega, hr', k.mono ((x6.trans e7).trans e8)⟩
    have hr' : ¬ p ≤ 21 := of_decide_eq_false hr
    have x7 := x6.trans e7
    refine q_eq rfl (fun e H8 e8 => ?_) (fun n22 H8 e8 => ?_)
    · subst e
      obtain rfl := len0 (shape_len ha.sh rfl)
      have x := x7.trans e8
      refine s_retM (ev_var rfl) (x _ _ h1) (lookup_none h2 (by decide +kernel)) ea_nil fun H9 y => ?_
      exact ⟨l, s, a, rfl, O.mono (x.trans y), (k.mono (x.trans y)).is (La.step_some a rfl)⟩
    have e : p = 23 := by omega
    subst e
    obtain rfl := len0 (shape_len ha.sh rfl)
    have x := x7.trans e8
    refine s_retM (ev_var rfl) (x _ _ h1) (lookup_none h2 (by decide +kernel)) ea_nil fun H9 y => ?_
    exact ⟨l, s, a, rfl, O.mono (x.trans y), (k.mono (x.trans y)).is (La.step_some a rfl)⟩
end
end Lw

set_option Elab.async false
set_option linter.all false
set_option autoImplicit false
set_option maxRecDepth 100000
set_option maxHeartbeats 4000000
namespace Lw
open PySem PySem.Spec PyProof.Rows L2 Evl LamX
section
variable {K : PySem.W.Frag} {mg : Str → Option Value} {C A P1 P2 P3 : Addr} {σ : L2.St} {H : Hp} {ta tb te tv : TE} {D : Ends} {tz : TS}
/-! ### a new object -/
/-- a new object, no list beside it known yet -/
def New (C : Addr) (H : Hp) (s : Addr) : Prop := ∃ dx p h, H s = some (.ins C dx (fsOf false p h)) ∧ H p = some (.lst []) ∧ H h = some (.lst [])
theorem New.obj {s l : Addr} {T : List (Addr × Str)} {H H1 : Hp} (x : Ex H H1) (h : New C H s) (hl : H l = none) {xs : List V} (h1 : H1 l = some (.lst xs)) (t : Tabs T H1) : Obj C l T H1 s none := by
  obtain ⟨dx, p, h, a, b, c⟩ := h
  exact ⟨⟨dx, p, h, [], x _ _ a, ⟨[], x _ _ b, .nil⟩, ne_of_none b hl, x _ _ c, ne_of_none c hl, .nil⟩, ⟨xs, h1⟩, t, (fun e he => by cases he), Nat.zero_le _, (fun w hw => by cases hw), (fun w hw => by cases hw), Nat.zero_le _⟩
def sp_Session_init (K : PySem.W.Frag) (C A P1 P2 P3 : Addr) : Sp := fun vs H Q _ => ∃ s dx, vs = [.ref s] ∧ H s = some (.ins C dx []) ∧ ∀ H', Keep s H H' → New C H' s → Q .non H'
theorem len_Session_init : ∀ vs H Q E, sp_Session_init K C A P1 P2 P3 vs H Q E → vs.length = 1 := by
  rintro vs H Q E ⟨_, _, rfl, _⟩
  rfl
theorem fs_new (p h : Addr) : putF "earlier" (.ref h) (putF "points" (.ref p) (putF "begun" (.bl false) [])) = fsOf false p h := by
  have e : putF "points" (.ref p) (putF "begun" (.bl false) []) = ([("begun", .bl false), ("points", .ref p)] : List (Str × V)) := (put_past (by decide +kernel)).trans rfl
  rw [e]
  exact (put_past (by decide +kernel)).trans (congrArg _ ((put_past (by decide +kernel)).trans rfl))
theorem pure_Session_init (T : Txt K mg C A P1 P2 P3) : ∀ vs H Q E, sp_Session_init K C A P1 P2 P3 vs H Q E → t_Session_init K C A P1 P2 P3 { nx := fun _ H' => Q .non H', rt := Q } (start N_Session_init vs) H := by
  rintro vs H Q E ⟨s, dx, rfl, h1, k⟩
  refine q_fld ev_c (fun _ _ => ev_var rfl) h1 T.cl_Session T.f_Session_begun (by show 0 < 1000; decide) fun H1 e1 => ?_
  refine q_fldL (el_lst ea_nil (by show 0 ≤ 100000; decide)) (fun _ _ => ev_var rfl) upd_same T.cl_Session T.f_Session_points (by show 1 < 1000; decide) fun q H2 hq e2 h4 => ?_
  refine s_fldL (el_lst ea_nil (by show 0 ≤ 100000; decide)) (fun _ _ => ev_var rfl) upd_same T.cl_Session T.f_Session_earlier (by show 2 < 1000; decide) fun g H3 hg e3 h5 => ?_
  rw [fs_new]
  have s2 := e2 _ _ (upd_same (H := H1) (a := s) (o := .ins C dx (putF "begun" (.bl false) [])))
  have s3 := e3 _ _ (upd_same (H := H2) (a := s) (o := .ins C dx (putF "points" (.ref q) (putF "begun" (.bl false) []))))
  have qs : q ≠ s := fun z => by
    rw [z, s2] at h4
    cases h4
  have gs : g ≠ s := fun z => by
    rw [z, s3] at h5
    cases h5
  refine k _ ((((Keep.ex e1).trans Keep.put).trans (Keep.ex e2)).trans ((Keep.put.trans (Keep.ex e3)).trans Keep.put)) ⟨dx, q, g, upd_same, ?_, ?_⟩
  · rw [upd_ne qs]
    exact e3 _ _ (by rw [upd_ne qs]; exact h4)
  · rw [upd_ne gs]
    exact h5
/-! ### the loop -/
def sp_answers (K : PySem.W.Frag) (C A P1 P2 P3 : Addr) : Sp := fun vs H Q _ => ∃ (c : Addr) (ns : List Int), vs = [.ref c] ∧ SqL K H c (ns.map V.int) ∧ ns.length ≤ 1024 ∧ PyKv413.answers_asked ns = true ∧ Tabs (tabsT P1 P2 P3) H ∧
  ∀ (H' : Hp) (p : Addr), H' p = some (.lst ((PyKv413.answers ns).map V.int)) → Q (.ref p) H'
theorem len_answers : ∀ vs H Q E, sp_answers K C A P1 P2 P3 vs H Q E → vs.length = 1 := by
  rintro vs H Q E ⟨_, _, rfl, _⟩
  rfl
theorem counts_at {p : Int} {n : Nat} (h : PyKv413.shape p = some (n, 0)) : atI (([0, 2, 1, 3, 0, 0, 2, 2, 2, 1, 1, 2, 1, 2, 2, 3, 2, 1, 0, 0, 0, 0, 0, 0] : List Int).map V.int) p = some (.int (n : Int)) := by
  obtain ⟨_, h1, h2⟩ := La.shape_rows h
  rcases La.place_of ⟨h1, h2⟩ with rfl | rfl | rfl | rfl | rfl | rfl | rfl | rfl | rfl | rfl | rfl | rfl | rfl | rfl | rfl | rfl | rfl | rfl | rfl | rfl | rfl | rfl | rfl | rfl
  all_goals (cases h; rfl)
theorem sq_extN {H H' : Hp} {a : Addr} {xs : List V} (x : ExtN H H') (h : SqL K H a xs) : SqL K H' a xs := by
  rcases h with (h | ⟨o, h⟩) | h
  · exact .inl (.inl (x _ _ h fun ps z => by cases z))
  · exact .inl (.inr ⟨o, x _ _ h fun ps z => by cases z⟩)
  · exact .inr h
theorem KeepN.sub {s : Addr} {H0 H1 H2 : Hp} (h0 : H0 s = none) (x : ExtN H0 H1) (k : KeepN s H1 H2) : ExtN H0 H2 := fun b o h n => k b o (fun z => by
  rw [z, h0] at h
  cases h) (x b o h n) n
theorem extN_mut {H H' : Hp} {p : Addr} {o : HO} (x : ExtN H H') (h : H p = none) : ExtN H (upd H' p o) := fun a u ha n => by
  rw [upd_ne (ne_of_none ha h)]
  exact x a u ha n
theorem Keep.sub {s : Addr} {H0 H1 H2 : Hp} (h0 : H0 s = none) (x : Ex H0 H1) (k : Keep s H1 H2) : Ex H0 H2 := fun b o h => k b o (fun z => by
  rw [z, h0] at h
  cases h) (x b o h)
theorem pure_answers (T : Txt K mg C A P1 P2 P3) : ∀ vs H Q E, sp_answers K C A P1 P2 P3 vs H Q E → t_answers K C A P1 P2 P3 (sp_counted K C A P1 P2 P3) (sp_answer K C A P1 P2 P3) (sp_Session_init K C A P1 P2 P3) { nx := fun _ H' => Q .non H', rt := Q } (start N_answers vs) H := by
  rintro vs H Q E ⟨c, ns, rfl, hS, hlen, hask, hT0, k⟩
  obtain ⟨m0, hm0, hleft⟩ := La.Left.start hask
  have hshort := La.asked_short hask
  -- session = Session()
  intro s dx ns_ nd_ ne_
  refine ⟨s, dx, rfl, upd_same, fun H1 kp1 O1 => ⟨rfl, ?_⟩⟩
  have x1 : Ex H H1 := fun b o h => kp1 b o (ne_of_none h ns_) (by
    rw [upd_ne (ne_of_none h ns_), upd_ne (ne_of_none h nd_)]
    exact h)
  -- told = []
  refine q_asgL (xs := []) (el_lst ea_nil (by show 0 ≤ 100000; decide)) fun l H2 hl e2 h2 => ?_
  refine q_asg ev_c fun H3 e3 => ?_
  have x3 : Ex H H3 := (x1.trans e2).trans e3
  have hl0 : H l = none := fresh_back x1 hl
  refine q_while (fun m σ' H' => ∃ (i : Nat) (st : Kv413.State) (told todo : List Int) (o4 o5 : Option V), σ' = [some (.ref c), some (.ref s), some (.ref l), some (.int (i : Int)), o4, o5] ∧ i ≤ ns.length ∧ La.Left st (ns.drop i) todo m ∧ told ++ todo = PyKv413.answers ns ∧ ExtN H H' ∧ Obj C l (tabsT P1 P2 P3) H' s st ∧ H' l = some (.lst (told.map V.int))) m0 ⟨0, none, [], _, none, none, rfl, Nat.zero_le _, by rw [List.drop_zero]; exact hleft, rfl, ExtN.of x3, O1.obj (e2.trans e3) hl (e3 _ _ h2) (hT0.ext x3), e3 _ _ h2⟩ ?_
  rintro m σ' H' ⟨i, st, told, todo, o4, o5, rfl, hi, hL, htt, x, O, hlst⟩
  refine ⟨decide ((i : Int) < ((ns.map V.int).length : Int)), et_test (ev_op (ev_var rfl) (ev_lenS (ev_var rfl) (sq_extN x hS)) rv_I0), fun hb H4 e4 => ?_, fun hb H4 e4 => ?_⟩
  · have hb' : i < ns.length := by
      have := of_decide_eq_true hb
      rw [List.length_map] at this
      omega
    have hd : ns.drop i = ns[i] :: ns.drop (i + 1) := List.drop_eq_getElem_cons hb'
    rw [hd] at hL
    obtain ⟨n, m', todo', hsh, hn, hm, hin, htodo, hL'⟩ := hL.cons
    obtain ⟨_, hp0, hp⟩ := La.shape_rows hsh
    rw [List.length_drop] at hn
    refine ⟨fun σ2 H2 => ∃ m', m' < m ∧ ∃ (i : Nat) (st : Kv413.State) (told todo : List Int) (o4 o5 : Option V), σ2 = [some (.ref c), some (.ref s), some (.ref l), some (.int (i : Int)), o4, o5] ∧ i ≤ ns.length ∧ La.Left st (ns.drop i) todo m' ∧ told ++ todo = PyKv413.answers ns ∧ ExtN H H2 ∧ Obj C l (tabsT P1 P2 P3) H2 s st ∧ H2 l = some (.lst (told.map V.int)), fun _ _ h => h, ?_⟩
    have x4 := x.trans (ExtN.of e4)
    -- number = calls[at]
    refine q_asg (v := .int ns[i]) (ev_op (ev_var rfl) (ev_var rfl) (rv_ixL (sq_extN x4 hS) (at_of rfl (by rw [List.getElem?_map, List.getElem?_eq_getElem hb']; rfl)))) fun H5 e5 => ?_
    have x5 := x4.trans (ExtN.of e5)
    -- end = at + 1 + GIVEN_COUNTS[number]
    refine q_asg (ev_op (ev_op (ev_var rfl) ev_c rv_I0) (ev_op ev_c (ev_var rfl) (rv_ixT (T.t_GIVEN_COUNTS _) (counts_at hsh))) rv_I0) fun H6 e6 => ?_
    have x6 := x5.trans (ExtN.of e6)
    have O6 := ((O.mono e4).mono e5).mono e6
    have l6 := e6 _ _ (e5 _ _ (e4 _ _ hlst))
    -- told.extend(counted(answer(session, number, calls[at + 1:end])))
    refine ⟨_, rfl, Or.inl ⟨rfl, _, sq_of l6⟩, ?_⟩
    refine ⟨_, rfl, _, rfl, ?_⟩
    refine el_sl (ev_var rfl) (eo_some (ev_op (ev_var rfl) ev_c rv_I0)) (eo_some (ev_var rfl)) (sq_extN x6 hS) H6 (Ex.refl H6) _ fun g H7 hg e7 h7 => ?_
    have hcut : cutV (ns.map V.int) (some ((i : Int) + 1)) (some ((i : Int) + 1 + (n : Int))) = (((ns.drop (i + 1)).take n)).map V.int := by
      rw [cut_mid (by omega) (by omega) (by rw [List.length_map]; omega), ← List.map_drop, ← List.map_take]
      congr 2
      omega
    have hcut' := h7
    rw [hcut] at hcut'
    have hask7 : Asked H7 g ns[i] ((ns.drop (i + 1)).take n) := by
      refine ⟨hcut', ?_, hin⟩
      rw [List.length_take, List.length_drop, Nat.min_eq_left (by omega)]
      exact hsh
    refine ⟨l, s, st, ns[i], (ns.drop (i + 1)).take n, g, rfl, O6.mono e7, hask7, hp0, hp, fun r H8 kp8 O8 h8 => ?_⟩
    -- counted
    have hstep : ((Kv413Neutral.step st [ns[i] :: (ns.drop (i + 1)).take n]).2).length + 1 + told.length ≤ 10000000 := by
      rw [← htt, htodo, List.length_append, List.length_append, List.length_cons] at hshort
      omega
    refine ⟨r, _, rfl, h8, by omega, fun q H9 hq e9 h9 => ?_⟩
    have lne : l ≠ s := fun z => by
      obtain ⟨dx', fs', a1, a2⟩ := O6.at_
      rw [← z, l6] at a1
      cases a1
    have l9 : H9 l = some (.lst (told.map V.int)) := e9 _ _ (kp8 _ _ lne (e7 _ _ l6) (fun ps z => by cases z))
    have x9 : ExtN H H9 := (KeepN.sub ns_ (x6.trans (ExtN.of e7)) kp8).trans (ExtN.of e9)
    refine ⟨l, q, _, _, rfl, rfl, l9, h9, ?_, ?_⟩
    · rw [List.length_map, List.length_map, List.length_cons]
      have : (10000001 : Nat) ≤ sizeLine := by decide
      omega
    -- at = end
    have O9 := O8.mono e9
    have O10 : Obj C l (tabsT P1 P2 P3) (upd H9 l (.lst (told.map V.int ++ (((Kv413Neutral.step st [ns[i] :: (ns.drop (i + 1)).take n]).2.length : Int) :: (Kv413Neutral.step st [ns[i] :: (ns.drop (i + 1)).take n]).2).map V.int))) s (Kv413Neutral.step st [ns[i] :: (ns.drop (i + 1)).take n]).1 := by
      obtain ⟨dx', p', g', hs', b1, b2, b3, b4, b5, b6⟩ := O9.ex
      refine ⟨⟨dx', p', g', hs', by rw [upd_ne (Ne.symm lne)]; exact b1, b2.keep Keep.put l9 b3, b3, by rw [upd_ne b5]; exact b4, b5, Paired.to (fun v w ⟨q, a1, a2, a3⟩ => ⟨q, a1, a2.keep Keep.put l9 a3, a3⟩) b6⟩, ⟨_, upd_same⟩, Tabs.keep O9.tb Keep.put l9 (fun ps z => by cases z) (fun φ z => by cases z), O9.sm, O9.le, O9.psm, O9.ple, O9.few⟩
    refine s_asg (ev_var rfl) fun H11 e11 => ?_
    refine ⟨m', by omega, i + 1 + n, _, told ++ ((((Kv413Neutral.step st [ns[i] :: (ns.drop (i + 1)).take n]).2.length : Int) :: (Kv413Neutral.step st [ns[i] :: (ns.drop (i + 1)).take n]).2)), todo', _, _, rfl, by omega, ?_, ?_, ?_, O10.mono e11, ?_⟩
    · have hdd : ns.drop (i + 1 + n) = (ns.drop (i + 1)).drop n := by rw [List.drop_drop]
      rw [hdd]
      exact hL'
    · rw [List.append_assoc, ← htodo]
      exact htt
    · exact (extN_mut x9 hl0).trans (ExtN.of e11)
    · rw [List.map_append]
      exact e11 _ _ upd_same
  · have hb' : ¬ i < ns.length := by
      have := of_decide_eq_false hb
      rw [List.length_map] at this
      omega
    have hd : ns.drop i = [] := List.drop_of_length_le (by omega)
    rw [hd] at hL
    have ht := hL.nil
    rw [ht, List.append_nil] at htt
    refine s_ret (ev_var rfl) fun H5 e5 => k H5 l ?_
    rw [← htt]
    exact e5 _ _ (e4 _ _ hlst)
end
end Lw

set_option Elab.async false
set_option linter.all false
set_option maxRecDepth 100000
set_option maxHeartbeats 8000000
namespace Lw
open PySem PySem.Spec PyProof.Rows L2
open PySem.W (Codec)
/-- what the row asks, from the promise -/
theorem hsp_answers {K : PySem.W.Frag} {C A P1 P2 P3 c1 c2 c3 : Addr} : ∀ (H : Hp) (xs : List V) (a : Codec.denoteAll PySem.Challenge.rw_lightevents_s01_answers.args), (∀ p ∈ [(c1, P1), (c2, P2), (c3, P3)], H p.2 = some (.tbl #[])) → Codec.withinAll PySem.Challenge.rw_lightevents_s01_answers.args a = true → Codec.app PySem.Challenge.rw_lightevents_s01_answers.args PySem.Challenge.rw_lightevents_s01_answers.asked a = true → DwAll K H xs (Codec.encAll PySem.Challenge.rw_lightevents_s01_answers.args a) → sp_answers K C A P1 P2 P3 xs H (fun v H' => Dw K H' v (PySem.Challenge.rw_lightevents_s01_answers.ret.enc (Codec.app PySem.Challenge.rw_lightevents_s01_answers.args PySem.Challenge.rw_lightevents_s01_answers.f a))) fun _ _ _ => False := by
  intro H xs a hO hwi hask hx
  rcases hx with _ | ⟨h1, h2⟩
  cases h2
  cases h1 with
  | lst hs ha =>
    have ei := L2.ints_dw a.1 _ ha
    subst ei
    have hq : ((Codec.inLen 0 1024 a.1 && a.1.all (Codec.inInt (-2147483648) 4294967295)) && true) = true := hwi
    rw [Bool.and_eq_true, Bool.and_eq_true] at hq
    have hT : LamX.Tabs (tabsT P1 P2 P3) H := fun p hp => LamX.TabS.nil (by
      rcases List.mem_cons.mp hp with rfl | hp
      · exact hO (c1, P1) (List.mem_cons_self ..)
      rcases List.mem_cons.mp hp with rfl | hp
      · exact hO (c2, P2) (List.mem_cons_of_mem _ (List.mem_cons_self ..))
      rcases List.mem_cons.mp hp with rfl | hp
      · exact hO (c3, P3) (List.mem_cons_of_mem _ (List.mem_cons_of_mem _ (List.mem_cons_self ..)))
      · cases hp)
    exact ⟨_, a.1, rfl, hs, (Codec.inNat_iff.mp hq.1.1).2, hask, hT, fun H2 p hp => .lst (L2.SqL.of hp) (L2.dw_ints _)⟩
theorem tabIn_of {K : PySem.W.Frag} {x : Str} {f c P : Addr} {q1 q4 : Value} {q2 q5 : Option Addr} {fd : FuncData} {q3 q6 : Array (Option Value)} {vs : Array Value} (h1 : PySem.W.nsIn K mainGlobals x = some (some (.ref f))) (h2 : K.lookup f = some ⟨q1, q2, .func fd, q3⟩) (h3 : fd.code = .ref c) (h4 : K.lookup c = some ⟨q4, q5, .fields vs, q6⟩) (h5 : (vs[11]? : Option Value) = some (.ref P)) : PySem.W.tabIn K x = some (c, P) := by
  unfold PySem.W.tabIn
  simp only [h1, h2, h3, h4, h5]
theorem all_mk {w : World} {K : PySem.W.Frag} {h : Heap} {mg : Str → Option Value} {fa : Addr} {qp : Program}
    {tk_SAME : Tok}
    {tk_HEARD_BY_LIGHT : Tok}
    {tk_HEARD_SLOWER : Tok}
    {tk_NEITHER : Tok}
    {tk_HEARS_BY_LIGHT : Tok}
    {tk_HEARS_SLOWER : Tok}
    {tk_MOST_EVENTS : Tok}
    {tk_MOST_BACK : Tok}
    {tk_FARTHEST : Tok}
    {tk_NO_EVENT : Tok}
    {tk_NO_CHANGE : Tok}
    {tk_OUT_OF_RANGE : Tok}
    {tk_TOO_MANY : Tok}
    {tk_THERE_IS_NONE : Tok}
    {tk_BEGIN : Tok}
    {tk_PUT : Tok}
    {tk_DROP : Tok}
    {tk_MOVE : Tok}
    {tk_TURN : Tok}
    {tk_EVENTS : Tok}
    {tk_HEARD : Tok}
    {tk_KIND : Tok}
    {tk_SQUARE : Tok}
    {tk_PAST : Tok}
    {tk_FUTURE : Tok}
    {tk_BETWEEN : Tok}
    {tk_ASIDE : Tok}
    {tk_FIRST : Tok}
    {tk_LAST : Tok}
    {tk_REACH : Tok}
    {tk_BY : Tok}
    {tk_LONG : Tok}
    {tk_LONGEST : Tok}
    {tk_CLOCK : Tok}
    {tk_MOST : Tok}
    {tk_CLOCKS : Tok}
    {tk_BACK : Tok}
    {a_GIVEN_COUNTS : Addr} {o_GIVEN_COUNTS : PySem.Obj} {n_GIVEN_COUNTS : Nat} {x0_GIVEN_COUNTS x1_GIVEN_COUNTS x2_GIVEN_COUNTS x3_GIVEN_COUNTS x4_GIVEN_COUNTS x5_GIVEN_COUNTS x6_GIVEN_COUNTS x7_GIVEN_COUNTS x8_GIVEN_COUNTS x9_GIVEN_COUNTS x10_GIVEN_COUNTS x11_GIVEN_COUNTS x12_GIVEN_COUNTS x13_GIVEN_COUNTS x14_GIVEN_COUNTS x15_GIVEN_COUNTS x16_GIVEN_COUNTS x17_GIVEN_COUNTS x18_GIVEN_COUNTS x19_GIVEN_COUNTS x20_GIVEN_COUNTS x21_GIVEN_COUNTS x22_GIVEN_COUNTS x23_GIVEN_COUNTS : Tok}
    {tk_NOT_BEGUN : Tok}
    {C_Session : Addr}
    {f_is_heard : Addr} {od_is_heard an_is_heard : Option Addr} {sl_is_heard : Array (Option Value)} {oc_is_heard kV_is_heard dc_is_heard pm_is_heard cd_is_heard ct_is_heard : Value}
    {f_is_apart_below : Addr} {od_is_apart_below an_is_apart_below : Option Addr} {sl_is_apart_below : Array (Option Value)} {oc_is_apart_below kV_is_apart_below dc_is_apart_below pm_is_apart_below cd_is_apart_below ct_is_apart_below : Value}
    {f_square_of : Addr} {od_square_of an_square_of : Option Addr} {sl_square_of : Array (Option Value)} {oc_square_of kV_square_of dc_square_of pm_square_of cd_square_of ct_square_of : Value}
    {f_kind_of : Addr} {od_kind_of an_kind_of : Option Addr} {sl_kind_of : Array (Option Value)} {oc_kind_of kV_kind_of dc_kind_of pm_kind_of cd_kind_of ct_kind_of : Value}
    {f_time_less_place : Addr} {od_time_less_place an_time_less_place : Option Addr} {sl_time_less_place : Array (Option Value)} {oc_time_less_place kV_time_less_place dc_time_less_place pm_time_less_place cd_time_less_place ct_time_less_place : Value}
    {f_time_and_place : Addr} {od_time_and_place an_time_and_place : Option Addr} {sl_time_and_place : Array (Option Value)} {oc_time_and_place kV_time_and_place dc_time_and_place pm_time_and_place cd_time_and_place ct_time_and_place : Value}
    {f_halves : Addr} {od_halves an_halves : Option Addr} {sl_halves : Array (Option Value)} {oc_halves kV_halves dc_halves pm_halves cd_halves ct_halves : Value}
    {f_crossing : Addr} {od_crossing an_crossing : Option Addr} {sl_crossing : Array (Option Value)} {oc_crossing kV_crossing dc_crossing pm_crossing cd_crossing ct_crossing : Value}
    {f_first_of : Addr} {od_first_of an_first_of : Option Addr} {sl_first_of : Array (Option Value)} {oc_first_of kV_first_of dc_first_of pm_first_of cd_first_of ct_first_of : Value}
    {f_last_of : Addr} {od_last_of an_last_of : Option Addr} {sl_last_of : Array (Option Value)} {oc_last_of kV_last_of dc_last_of pm_last_of cd_last_of ct_last_of : Value}
    {f_may_go_on : Addr} {od_may_go_on an_may_go_on : Option Addr} {sl_may_go_on : Array (Option Value)} {oc_may_go_on kV_may_go_on dc_may_go_on pm_may_go_on cd_may_go_on ct_may_go_on : Value}
    {f_row_lengths c_row_lengths P_row_lengths : Addr} {od_row_lengths an_row_lengths : Option Addr} {sl_row_lengths : Array (Option Value)} {oc_row_lengths kV_row_lengths dc_row_lengths pm_row_lengths ct_row_lengths : Value} {q1_row_lengths : Value} {q2_row_lengths : Option Addr} {vs_row_lengths : Array Value} {q3_row_lengths : Array (Option Value)} {d_row_lengths : DefRec}
    {f_longest_row : Addr} {od_longest_row an_longest_row : Option Addr} {sl_longest_row : Array (Option Value)} {oc_longest_row kV_longest_row dc_longest_row pm_longest_row cd_longest_row ct_longest_row : Value}
    {f_clock_of : Addr} {od_clock_of an_clock_of : Option Addr} {sl_clock_of : Array (Option Value)} {oc_clock_of kV_clock_of dc_clock_of pm_clock_of cd_clock_of ct_clock_of : Value}
    {f_most_apart c_most_apart P_most_apart : Addr} {od_most_apart an_most_apart : Option Addr} {sl_most_apart : Array (Option Value)} {oc_most_apart kV_most_apart dc_most_apart pm_most_apart ct_most_apart : Value} {q1_most_apart : Value} {q2_most_apart : Option Addr} {vs_most_apart : Array Value} {q3_most_apart : Array (Option Value)} {d_most_apart : DefRec}
    {f_clock_to_take : Addr} {od_clock_to_take an_clock_to_take : Option Addr} {sl_clock_to_take : Array (Option Value)} {oc_clock_to_take kV_clock_to_take dc_clock_to_take pm_clock_to_take cd_clock_to_take ct_clock_to_take : Value}
    {f_clocks_for_all c_clocks_for_all P_clocks_for_all : Addr} {od_clocks_for_all an_clocks_for_all : Option Addr} {sl_clocks_for_all : Array (Option Value)} {oc_clocks_for_all kV_clocks_for_all dc_clocks_for_all pm_clocks_for_all ct_clocks_for_all : Value} {q1_clocks_for_all : Value} {q2_clocks_for_all : Option Addr} {vs_clocks_for_all : Array Value} {q3_clocks_for_all : Array (Option Value)} {d_clocks_for_all : DefRec}
    {f_in_range : Addr} {od_in_range an_in_range : Option Addr} {sl_in_range : Array (Option Value)} {oc_in_range kV_in_range dc_in_range pm_in_range cd_in_range ct_in_range : Value}
    {f_counted : Addr} {od_counted an_counted : Option Addr} {sl_counted : Array (Option Value)} {oc_counted kV_counted dc_counted pm_counted cd_counted ct_counted : Value}
    {f_Session_init : Addr} {od_Session_init an_Session_init : Option Addr} {sl_Session_init : Array (Option Value)} {oc_Session_init kV_Session_init dc_Session_init pm_Session_init cd_Session_init ct_Session_init : Value}
    {f_Session_has : Addr} {od_Session_has an_Session_has : Option Addr} {sl_Session_has : Array (Option Value)} {oc_Session_has kV_Session_has dc_Session_has pm_Session_has cd_Session_has ct_Session_has : Value}
    {f_Session_others : Addr} {od_Session_others an_Session_others : Option Addr} {sl_Session_others : Array (Option Value)} {oc_Session_others kV_Session_others dc_Session_others pm_Session_others cd_Session_others ct_Session_others : Value}
    {f_Session_become : Addr} {od_Session_become an_Session_become : Option Addr} {sl_Session_become : Array (Option Value)} {oc_Session_become kV_Session_become dc_Session_become pm_Session_become cd_Session_become ct_Session_become : Value}
    {f_Session_begin : Addr} {od_Session_begin an_Session_begin : Option Addr} {sl_Session_begin : Array (Option Value)} {oc_Session_begin kV_Session_begin dc_Session_begin pm_Session_begin cd_Session_begin ct_Session_begin : Value}
    {f_Session_back : Addr} {od_Session_back an_Session_back : Option Addr} {sl_Session_back : Array (Option Value)} {oc_Session_back kV_Session_back dc_Session_back pm_Session_back cd_Session_back ct_Session_back : Value}
    {f_Session_state : Addr} {od_Session_state an_Session_state : Option Addr} {sl_Session_state : Array (Option Value)} {oc_Session_state kV_Session_state dc_Session_state pm_Session_state cd_Session_state ct_Session_state : Value}
    {f_Session_put : Addr} {od_Session_put an_Session_put : Option Addr} {sl_Session_put : Array (Option Value)} {oc_Session_put kV_Session_put dc_Session_put pm_Session_put cd_Session_put ct_Session_put : Value}
    {f_Session_drop : Addr} {od_Session_drop an_Session_drop : Option Addr} {sl_Session_drop : Array (Option Value)} {oc_Session_drop kV_Session_drop dc_Session_drop pm_Session_drop cd_Session_drop ct_Session_drop : Value}
    {f_Session_move : Addr} {od_Session_move an_Session_move : Option Addr} {sl_Session_move : Array (Option Value)} {oc_Session_move kV_Session_move dc_Session_move pm_Session_move cd_Session_move ct_Session_move : Value}
    {f_Session_turn : Addr} {od_Session_turn an_Session_turn : Option Addr} {sl_Session_turn : Array (Option Value)} {oc_Session_turn kV_Session_turn dc_Session_turn pm_Session_turn cd_Session_turn ct_Session_turn : Value}
    {f_Session_events : Addr} {od_Session_events an_Session_events : Option Addr} {sl_Session_events : Array (Option Value)} {oc_Session_events kV_Session_events dc_Session_events pm_Session_events cd_Session_events ct_Session_events : Value}
    {f_Session_heard : Addr} {od_Session_heard an_Session_heard : Option Addr} {sl_Session_heard : Array (Option Value)} {oc_Session_heard kV_Session_heard dc_Session_heard pm_Session_heard cd_Session_heard ct_Session_heard : Value}
    {f_Session_kind : Addr} {od_Session_kind an_Session_kind : Option Addr} {sl_Session_kind : Array (Option Value)} {oc_Session_kind kV_Session_kind dc_Session_kind pm_Session_kind cd_Session_kind ct_Session_kind : Value}
    {f_Session_square : Addr} {od_Session_square an_Session_square : Option Addr} {sl_Session_square : Array (Option Value)} {oc_Session_square kV_Session_square dc_Session_square pm_Session_square cd_Session_square ct_Session_square : Value}
    {f_Session_past : Addr} {od_Session_past an_Session_past : Option Addr} {sl_Session_past : Array (Option Value)} {oc_Session_past kV_Session_past dc_Session_past pm_Session_past cd_Session_past ct_Session_past : Value}
    {f_Session_future : Addr} {od_Session_future an_Session_future : Option Addr} {sl_Session_future : Array (Option Value)} {oc_Session_future kV_Session_future dc_Session_future pm_Session_future cd_Session_future ct_Session_future : Value}
    {f_Session_between : Addr} {od_Session_between an_Session_between : Option Addr} {sl_Session_between : Array (Option Value)} {oc_Session_between kV_Session_between dc_Session_between pm_Session_between cd_Session_between ct_Session_between : Value}
    {f_Session_aside : Addr} {od_Session_aside an_Session_aside : Option Addr} {sl_Session_aside : Array (Option Value)} {oc_Session_aside kV_Session_aside dc_Session_aside pm_Session_aside cd_Session_aside ct_Session_aside : Value}
    {f_Session_first : Addr} {od_Session_first an_Session_first : Option Addr} {sl_Session_first : Array (Option Value)} {oc_Session_first kV_Session_first dc_Session_first pm_Session_first cd_Session_first ct_Session_first : Value}
    {f_Session_last : Addr} {od_Session_last an_Session_last : Option Addr} {sl_Session_last : Array (Option Value)} {oc_Session_last kV_Session_last dc_Session_last pm_Session_last cd_Session_last ct_Session_last : Value}
    {f_Session_reach : Addr} {od_Session_reach an_Session_reach : Option Addr} {sl_Session_reach : Array (Option Value)} {oc_Session_reach kV_Session_reach dc_Session_reach pm_Session_reach cd_Session_reach ct_Session_reach : Value}
    {f_Session_by : Addr} {od_Session_by an_Session_by : Option Addr} {sl_Session_by : Array (Option Value)} {oc_Session_by kV_Session_by dc_Session_by pm_Session_by cd_Session_by ct_Session_by : Value}
    {f_Session_long : Addr} {od_Session_long an_Session_long : Option Addr} {sl_Session_long : Array (Option Value)} {oc_Session_long kV_Session_long dc_Session_long pm_Session_long cd_Session_long ct_Session_long : Value}
    {f_Session_longest : Addr} {od_Session_longest an_Session_longest : Option Addr} {sl_Session_longest : Array (Option Value)} {oc_Session_longest kV_Session_longest dc_Session_longest pm_Session_longest cd_Session_longest ct_Session_longest : Value}
    {f_Session_clock : Addr} {od_Session_clock an_Session_clock : Option Addr} {sl_Session_clock : Array (Option Value)} {oc_Session_clock kV_Session_clock dc_Session_clock pm_Session_clock cd_Session_clock ct_Session_clock : Value}
    {f_Session_most : Addr} {od_Session_most an_Session_most : Option Addr} {sl_Session_most : Array (Option Value)} {oc_Session_most kV_Session_most dc_Session_most pm_Session_most cd_Session_most ct_Session_most : Value}
    {f_Session_clocks : Addr} {od_Session_clocks an_Session_clocks : Option Addr} {sl_Session_clocks : Array (Option Value)} {oc_Session_clocks kV_Session_clocks dc_Session_clocks pm_Session_clocks cd_Session_clocks ct_Session_clocks : Value}
    {f_change : Addr} {od_change an_change : Option Addr} {sl_change : Array (Option Value)} {oc_change kV_change dc_change pm_change cd_change ct_change : Value}
    {f_tell_heard : Addr} {od_tell_heard an_tell_heard : Option Addr} {sl_tell_heard : Array (Option Value)} {oc_tell_heard kV_tell_heard dc_tell_heard pm_tell_heard cd_tell_heard ct_tell_heard : Value}
    {f_tell_light : Addr} {od_tell_light an_tell_light : Option Addr} {sl_tell_light : Array (Option Value)} {oc_tell_light kV_tell_light dc_tell_light pm_tell_light cd_tell_light ct_tell_light : Value}
    {f_tell_rows : Addr} {od_tell_rows an_tell_rows : Option Addr} {sl_tell_rows : Array (Option Value)} {oc_tell_rows kV_tell_rows dc_tell_rows pm_tell_rows cd_tell_rows ct_tell_rows : Value}
    {f_answer : Addr} {od_answer an_answer : Option Addr} {sl_answer : Array (Option Value)} {oc_answer kV_answer dc_answer pm_answer cd_answer ct_answer : Value}
    {f_answers : Addr} {od_answers an_answers : Option Addr} {sl_answers : Array (Option Value)} {oc_answers kV_answers dc_answers pm_answers cd_answers ct_answers : Value}
    (X : K.In h) (G : h.Ns mainGlobals mg) (hfa : mg "answers" = some (.ref fa))
    (tab : ∀ (d : DefRec) (x : Str) (c P : Addr), (recsOf qp).find? (fun e => e.name == x) = some d → PySem.W.tabIn K x = some (c, P) → PySem.W.CodeHd h c P ∧ h.get? P = some (PySem.W.tabObj #[]))
    (g_SAME : PySem.W.nsIn K mainGlobals "SAME" = some (some (.int (0) tk_SAME)))
    (g_HEARD_BY_LIGHT : PySem.W.nsIn K mainGlobals "HEARD_BY_LIGHT" = some (some (.int (1) tk_HEARD_BY_LIGHT)))
    (g_HEARD_SLOWER : PySem.W.nsIn K mainGlobals "HEARD_SLOWER" = some (some (.int (2) tk_HEARD_SLOWER)))
    (g_NEITHER : PySem.W.nsIn K mainGlobals "NEITHER" = some (some (.int (3) tk_NEITHER)))
    (g_HEARS_BY_LIGHT : PySem.W.nsIn K mainGlobals "HEARS_BY_LIGHT" = some (some (.int (4) tk_HEARS_BY_LIGHT)))
    (g_HEARS_SLOWER : PySem.W.nsIn K mainGlobals "HEARS_SLOWER" = some (some (.int (5) tk_HEARS_SLOWER)))
    (g_MOST_EVENTS : PySem.W.nsIn K mainGlobals "MOST_EVENTS" = some (some (.int (10) tk_MOST_EVENTS)))
    (g_MOST_BACK : PySem.W.nsIn K mainGlobals "MOST_BACK" = some (some (.int (10) tk_MOST_BACK)))
    (g_FARTHEST : PySem.W.nsIn K mainGlobals "FARTHEST" = some (some (.int (99) tk_FARTHEST)))
    (g_NO_EVENT : PySem.W.nsIn K mainGlobals "NO_EVENT" = some (some (.int (-2) tk_NO_EVENT)))
    (g_NO_CHANGE : PySem.W.nsIn K mainGlobals "NO_CHANGE" = some (some (.int (-6) tk_NO_CHANGE)))
    (g_OUT_OF_RANGE : PySem.W.nsIn K mainGlobals "OUT_OF_RANGE" = some (some (.int (-22) tk_OUT_OF_RANGE)))
    (g_TOO_MANY : PySem.W.nsIn K mainGlobals "TOO_MANY" = some (some (.int (-28) tk_TOO_MANY)))
    (g_THERE_IS_NONE : PySem.W.nsIn K mainGlobals "THERE_IS_NONE" = some (some (.int (-33) tk_THERE_IS_NONE)))
    (g_BEGIN : PySem.W.nsIn K mainGlobals "BEGIN" = some (some (.int (0) tk_BEGIN)))
    (g_PUT : PySem.W.nsIn K mainGlobals "PUT" = some (some (.int (1) tk_PUT)))
    (g_DROP : PySem.W.nsIn K mainGlobals "DROP" = some (some (.int (2) tk_DROP)))
    (g_MOVE : PySem.W.nsIn K mainGlobals "MOVE" = some (some (.int (3) tk_MOVE)))
    (g_TURN : PySem.W.nsIn K mainGlobals "TURN" = some (some (.int (4) tk_TURN)))
    (g_EVENTS : PySem.W.nsIn K mainGlobals "EVENTS" = some (some (.int (5) tk_EVENTS)))
    (g_HEARD : PySem.W.nsIn K mainGlobals "HEARD" = some (some (.int (6) tk_HEARD)))
    (g_KIND : PySem.W.nsIn K mainGlobals "KIND" = some (some (.int (7) tk_KIND)))
    (g_SQUARE : PySem.W.nsIn K mainGlobals "SQUARE" = some (some (.int (8) tk_SQUARE)))
    (g_PAST : PySem.W.nsIn K mainGlobals "PAST" = some (some (.int (9) tk_PAST)))
    (g_FUTURE : PySem.W.nsIn K mainGlobals "FUTURE" = some (some (.int (10) tk_FUTURE)))
    (g_BETWEEN : PySem.W.nsIn K mainGlobals "BETWEEN" = some (some (.int (11) tk_BETWEEN)))
    (g_ASIDE : PySem.W.nsIn K mainGlobals "ASIDE" = some (some (.int (12) tk_ASIDE)))
    (g_FIRST : PySem.W.nsIn K mainGlobals "FIRST" = some (some (.int (13) tk_FIRST)))
    (g_LAST : PySem.W.nsIn K mainGlobals "LAST" = some (some (.int (14) tk_LAST)))
    (g_REACH : PySem.W.nsIn K mainGlobals "REACH" = some (some (.int (15) tk_REACH)))
    (g_BY : PySem.W.nsIn K mainGlobals "BY" = some (some (.int (16) tk_BY)))
    (g_LONG : PySem.W.nsIn K mainGlobals "LONG" = some (some (.int (17) tk_LONG)))
    (g_LONGEST : PySem.W.nsIn K mainGlobals "LONGEST" = some (some (.int (18) tk_LONGEST)))
    (g_CLOCK : PySem.W.nsIn K mainGlobals "CLOCK" = some (some (.int (19) tk_CLOCK)))
    (g_MOST : PySem.W.nsIn K mainGlobals "MOST" = some (some (.int (20) tk_MOST)))
    (g_CLOCKS : PySem.W.nsIn K mainGlobals "CLOCKS" = some (some (.int (21) tk_CLOCKS)))
    (g_BACK : PySem.W.nsIn K mainGlobals "BACK" = some (some (.int (22) tk_BACK)))
    (g_GIVEN_COUNTS : PySem.W.nsIn K mainGlobals "GIVEN_COUNTS" = some (some (.ref a_GIVEN_COUNTS)))
    (l_GIVEN_COUNTS : K.lookup a_GIVEN_COUNTS = some o_GIVEN_COUNTS)
    (d_GIVEN_COUNTS : o_GIVEN_COUNTS.cls = .type "tuple" ∧ o_GIVEN_COUNTS.data = .seq #[.int (0) x0_GIVEN_COUNTS, .int (2) x1_GIVEN_COUNTS, .int (1) x2_GIVEN_COUNTS, .int (3) x3_GIVEN_COUNTS, .int (0) x4_GIVEN_COUNTS, .int (0) x5_GIVEN_COUNTS, .int (2) x6_GIVEN_COUNTS, .int (2) x7_GIVEN_COUNTS, .int (2) x8_GIVEN_COUNTS, .int (1) x9_GIVEN_COUNTS, .int (1) x10_GIVEN_COUNTS, .int (2) x11_GIVEN_COUNTS, .int (1) x12_GIVEN_COUNTS, .int (2) x13_GIVEN_COUNTS, .int (2) x14_GIVEN_COUNTS, .int (3) x15_GIVEN_COUNTS, .int (2) x16_GIVEN_COUNTS, .int (1) x17_GIVEN_COUNTS, .int (0) x18_GIVEN_COUNTS, .int (0) x19_GIVEN_COUNTS, .int (0) x20_GIVEN_COUNTS, .int (0) x21_GIVEN_COUNTS, .int (0) x22_GIVEN_COUNTS, .int (0) x23_GIVEN_COUNTS] n_GIVEN_COUNTS)
    (g_NOT_BEGUN : PySem.W.nsIn K mainGlobals "NOT_BEGUN" = some (some (.int (-11) tk_NOT_BEGUN)))
    (n_abs : PySem.W.nsIn K mainGlobals "abs" = some none)
    (n_enumerate : PySem.W.nsIn K mainGlobals "enumerate" = some none)
    (n_len : PySem.W.nsIn K mainGlobals "len" = some none)
    (n_max : PySem.W.nsIn K mainGlobals "max" = some none)
    (n_min : PySem.W.nsIn K mainGlobals "min" = some none)
    (n_range : PySem.W.nsIn K mainGlobals "range" = some none)
    (n_sorted : PySem.W.nsIn K mainGlobals "sorted" = some none)
    (c_Session : PySem.W.nsIn K mainGlobals "Session" = some (some (.ref C_Session)))
    (pg_Session : PySem.W.plainGet K C_Session Str.empty = true)
    (hd_Session : PySem.W.hasDictIn K C_Session = true)
    (po_Session : PySem.W.plainOver K C_Session = true)
    (sa_Session : PySem.W.findIn K (.ref C_Session) "__setattr__" = some (some (.builtin "object.__setattr__")))
    (mk_Session : PySem.W.makesIn K C_Session = true)
    (kc_Session : PySem.W.keepIn K (.ref C_Session) = true)
    (f_Session_begun : PySem.W.findIn K (.ref C_Session) "begun" = some none)
    (f_Session_points : PySem.W.findIn K (.ref C_Session) "points" = some none)
    (f_Session_earlier : PySem.W.findIn K (.ref C_Session) "earlier" = some none)
    (a_is_heard : PySem.W.nsIn K mainGlobals "is_heard" = some (some (.ref f_is_heard)))
    (l_is_heard : K.lookup f_is_heard = some ⟨oc_is_heard, od_is_heard, .func (PySem.W.fnOf "is_heard" "is_heard" (defArgs s_is_heard) (defBody s_is_heard) (defScope s_is_heard) .none kV_is_heard dc_is_heard pm_is_heard an_is_heard cd_is_heard ct_is_heard), sl_is_heard⟩)
    (cc_is_heard : PySem.W.codeIn K cd_is_heard "is_heard" = true)
    (kk_is_heard : PySem.W.keepIn K (.ref f_is_heard) = true)
    (a_is_apart_below : PySem.W.nsIn K mainGlobals "is_apart_below" = some (some (.ref f_is_apart_below)))
    (l_is_apart_below : K.lookup f_is_apart_below = some ⟨oc_is_apart_below, od_is_apart_below, .func (PySem.W.fnOf "is_apart_below" "is_apart_below" (defArgs s_is_apart_below) (defBody s_is_apart_below) (defScope s_is_apart_below) .none kV_is_apart_below dc_is_apart_below pm_is_apart_below an_is_apart_below cd_is_apart_below ct_is_apart_below), sl_is_apart_below⟩)
    (cc_is_apart_below : PySem.W.codeIn K cd_is_apart_below "is_apart_below" = true)
    (kk_is_apart_below : PySem.W.keepIn K (.ref f_is_apart_below) = true)
    (a_square_of : PySem.W.nsIn K mainGlobals "square_of" = some (some (.ref f_square_of)))
    (l_square_of : K.lookup f_square_of = some ⟨oc_square_of, od_square_of, .func (PySem.W.fnOf "square_of" "square_of" (defArgs s_square_of) (defBody s_square_of) (defScope s_square_of) .none kV_square_of dc_square_of pm_square_of an_square_of cd_square_of ct_square_of), sl_square_of⟩)
    (cc_square_of : PySem.W.codeIn K cd_square_of "square_of" = true)
    (kk_square_of : PySem.W.keepIn K (.ref f_square_of) = true)
    (a_kind_of : PySem.W.nsIn K mainGlobals "kind_of" = some (some (.ref f_kind_of)))
    (l_kind_of : K.lookup f_kind_of = some ⟨oc_kind_of, od_kind_of, .func (PySem.W.fnOf "kind_of" "kind_of" (defArgs s_kind_of) (defBody s_kind_of) (defScope s_kind_of) .none kV_kind_of dc_kind_of pm_kind_of an_kind_of cd_kind_of ct_kind_of), sl_kind_of⟩)
    (cc_kind_of : PySem.W.codeIn K cd_kind_of "kind_of" = true)
    (kk_kind_of : PySem.W.keepIn K (.ref f_kind_of) = true)
    (a_time_less_place : PySem.W.nsIn K mainGlobals "time_less_place" = some (some (.ref f_time_less_place)))
    (l_time_less_place : K.lookup f_time_less_place = some ⟨oc_time_less_place, od_time_less_place, .func (PySem.W.fnOf "time_less_place" "time_less_place" (defArgs s_time_less_place) (defBody s_time_less_place) (defScope s_time_less_place) .none kV_time_less_place dc_time_less_place pm_time_less_place an_time_less_place cd_time_less_place ct_time_less_place), sl_time_less_place⟩)
    (cc_time_less_place : PySem.W.codeIn K cd_time_less_place "time_less_place" = true)
    (kk_time_less_place : PySem.W.keepIn K (.ref f_time_less_place) = true)
    (a_time_and_place : PySem.W.nsIn K mainGlobals "time_and_place" = some (some (.ref f_time_and_place)))
    (l_time_and_place : K.lookup f_time_and_place = some ⟨oc_time_and_place, od_time_and_place, .func (PySem.W.fnOf "time_and_place" "time_and_place" (defArgs s_time_and_place) (defBody s_time_and_place) (defScope s_time_and_place) .none kV_time_and_place dc_time_and_place pm_time_and_place an_time_and_place cd_time_and_place ct_time_and_place), sl_time_and_place⟩)
    (cc_time_and_place : PySem.W.codeIn K cd_time_and_place "time_and_place" = true)
    (kk_time_and_place : PySem.W.keepIn K (.ref f_time_and_place) = true)
    (a_halves : PySem.W.nsIn K mainGlobals "halves" = some (some (.ref f_halves)))
    (l_halves : K.lookup f_halves = some ⟨oc_halves, od_halves, .func (PySem.W.fnOf "halves" "halves" (defArgs s_halves) (defBody s_halves) (defScope s_halves) .none kV_halves dc_halves pm_halves an_halves cd_halves ct_halves), sl_halves⟩)
    (cc_halves : PySem.W.codeIn K cd_halves "halves" = true)
    (kk_halves : PySem.W.keepIn K (.ref f_halves) = true)
    (a_crossing : PySem.W.nsIn K mainGlobals "crossing" = some (some (.ref f_crossing)))
    (l_crossing : K.lookup f_crossing = some ⟨oc_crossing, od_crossing, .func (PySem.W.fnOf "crossing" "crossing" (defArgs s_crossing) (defBody s_crossing) (defScope s_crossing) .none kV_crossing dc_crossing pm_crossing an_crossing cd_crossing ct_crossing), sl_crossing⟩)
    (cc_crossing : PySem.W.codeIn K cd_crossing "crossing" = true)
    (kk_crossing : PySem.W.keepIn K (.ref f_crossing) = true)
    (a_first_of : PySem.W.nsIn K mainGlobals "first_of" = some (some (.ref f_first_of)))
    (l_first_of : K.lookup f_first_of = some ⟨oc_first_of, od_first_of, .func (PySem.W.fnOf "first_of" "first_of" (defArgs s_first_of) (defBody s_first_of) (defScope s_first_of) .none kV_first_of dc_first_of pm_first_of an_first_of cd_first_of ct_first_of), sl_first_of⟩)
    (cc_first_of : PySem.W.codeIn K cd_first_of "first_of" = true)
    (kk_first_of : PySem.W.keepIn K (.ref f_first_of) = true)
    (a_last_of : PySem.W.nsIn K mainGlobals "last_of" = some (some (.ref f_last_of)))
    (l_last_of : K.lookup f_last_of = some ⟨oc_last_of, od_last_of, .func (PySem.W.fnOf "last_of" "last_of" (defArgs s_last_of) (defBody s_last_of) (defScope s_last_of) .none kV_last_of dc_last_of pm_last_of an_last_of cd_last_of ct_last_of), sl_last_of⟩)
    (cc_last_of : PySem.W.codeIn K cd_last_of "last_of" = true)
    (kk_last_of : PySem.W.keepIn K (.ref f_last_of) = true)
    (a_may_go_on : PySem.W.nsIn K mainGlobals "may_go_on" = some (some (.ref f_may_go_on)))
    (l_may_go_on : K.lookup f_may_go_on = some ⟨oc_may_go_on, od_may_go_on, .func (PySem.W.fnOf "may_go_on" "may_go_on" (defArgs s_may_go_on) (defBody s_may_go_on) (defScope s_may_go_on) .none kV_may_go_on dc_may_go_on pm_may_go_on an_may_go_on cd_may_go_on ct_may_go_on), sl_may_go_on⟩)
    (cc_may_go_on : PySem.W.codeIn K cd_may_go_on "may_go_on" = true)
    (kk_may_go_on : PySem.W.keepIn K (.ref f_may_go_on) = true)
    (a_row_lengths : PySem.W.nsIn K mainGlobals "row_lengths" = some (some (.ref f_row_lengths)))
    (l_row_lengths : K.lookup f_row_lengths = some ⟨oc_row_lengths, od_row_lengths, .func (PySem.W.fnOf "row_lengths" "row_lengths" (defArgs s_row_lengths) (defBody s_row_lengths) (defScope s_row_lengths) .none kV_row_lengths dc_row_lengths pm_row_lengths an_row_lengths (.ref c_row_lengths) ct_row_lengths), sl_row_lengths⟩)
    (cc_row_lengths : PySem.W.codeIn K (.ref c_row_lengths) "row_lengths" = true)
    (lc_row_lengths : K.lookup c_row_lengths = some ⟨q1_row_lengths, q2_row_lengths, .fields vs_row_lengths, q3_row_lengths⟩)
    (v_row_lengths : (vs_row_lengths[11]? : Option Value) = some (.ref P_row_lengths))
    (np_row_lengths : K.lookup P_row_lengths = none)
    (rec_row_lengths : (recsOf qp).find? (fun e => e.name == ("row_lengths" : Str)) = some d_row_lengths)
    (kk_row_lengths : PySem.W.keepIn K (.ref f_row_lengths) = true)
    (a_longest_row : PySem.W.nsIn K mainGlobals "longest_row" = some (some (.ref f_longest_row)))
    (l_longest_row : K.lookup f_longest_row = some ⟨oc_longest_row, od_longest_row, .func (PySem.W.fnOf "longest_row" "longest_row" (defArgs s_longest_row) (defBody s_longest_row) (defScope s_longest_row) .none kV_longest_row dc_longest_row pm_longest_row an_longest_row cd_longest_row ct_longest_row), sl_longest_row⟩)
    (cc_longest_row : PySem.W.codeIn K cd_longest_row "longest_row" = true)
    (kk_longest_row : PySem.W.keepIn K (.ref f_longest_row) = true)
    (a_clock_of : PySem.W.nsIn K mainGlobals "clock_of" = some (some (.ref f_clock_of)))
    (l_clock_of : K.lookup f_clock_of = some ⟨oc_clock_of, od_clock_of, .func (PySem.W.fnOf "clock_of" "clock_of" (defArgs s_clock_of) (defBody s_clock_of) (defScope s_clock_of) .none kV_clock_of dc_clock_of pm_clock_of an_clock_of cd_clock_of ct_clock_of), sl_clock_of⟩)
    (cc_clock_of : PySem.W.codeIn K cd_clock_of "clock_of" = true)
    (kk_clock_of : PySem.W.keepIn K (.ref f_clock_of) = true)
    (a_most_apart : PySem.W.nsIn K mainGlobals "most_apart" = some (some (.ref f_most_apart)))
    (l_most_apart : K.lookup f_most_apart = some ⟨oc_most_apart, od_most_apart, .func (PySem.W.fnOf "most_apart" "most_apart" (defArgs s_most_apart) (defBody s_most_apart) (defScope s_most_apart) .none kV_most_apart dc_most_apart pm_most_apart an_most_apart (.ref c_most_apart) ct_most_apart), sl_most_apart⟩)
    (cc_most_apart : PySem.W.codeIn K (.ref c_most_apart) "most_apart" = true)
    (lc_most_apart : K.lookup c_most_apart = some ⟨q1_most_apart, q2_most_apart, .fields vs_most_apart, q3_most_apart⟩)
    (v_most_apart : (vs_most_apart[11]? : Option Value) = some (.ref P_most_apart))
    (np_most_apart : K.lookup P_most_apart = none)
    (rec_most_apart : (recsOf qp).find? (fun e => e.name == ("most_apart" : Str)) = some d_most_apart)
    (kk_most_apart : PySem.W.keepIn K (.ref f_most_apart) = true)
    (a_clock_to_take : PySem.W.nsIn K mainGlobals "clock_to_take" = some (some (.ref f_clock_to_take)))
    (l_clock_to_take : K.lookup f_clock_to_take = some ⟨oc_clock_to_take, od_clock_to_take, .func (PySem.W.fnOf "clock_to_take" "clock_to_take" (defArgs s_clock_to_take) (defBody s_clock_to_take) (defScope s_clock_to_take) .none kV_clock_to_take dc_clock_to_take pm_clock_to_take an_clock_to_take cd_clock_to_take ct_clock_to_take), sl_clock_to_take⟩)
    (cc_clock_to_take : PySem.W.codeIn K cd_clock_to_take "clock_to_take" = true)
    (kk_clock_to_take : PySem.W.keepIn K (.ref f_clock_to_take) = true)
    (a_clocks_for_all : PySem.W.nsIn K mainGlobals "clocks_for_all" = some (some (.ref f_clocks_for_all)))
    (l_clocks_for_all : K.lookup f_clocks_for_all = some ⟨oc_clocks_for_all, od_clocks_for_all, .func (PySem.W.fnOf "clocks_for_all" "clocks_for_all" (defArgs s_clocks_for_all) (defBody s_clocks_for_all) (defScope s_clocks_for_all) .none kV_clocks_for_all dc_clocks_for_all pm_clocks_for_all an_clocks_for_all (.ref c_clocks_for_all) ct_clocks_for_all), sl_clocks_for_all⟩)
    (cc_clocks_for_all : PySem.W.codeIn K (.ref c_clocks_for_all) "clocks_for_all" = true)
    (lc_clocks_for_all : K.lookup c_clocks_for_all = some ⟨q1_clocks_for_all, q2_clocks_for_all, .fields vs_clocks_for_all, q3_clocks_for_all⟩)
    (v_clocks_for_all : (vs_clocks_for_all[11]? : Option Value) = some (.ref P_clocks_for_all))
    (np_clocks_for_all : K.lookup P_clocks_for_all = none)
    (rec_clocks_for_all : (recsOf qp).find? (fun e => e.name == ("clocks_for_all" : Str)) = some d_clocks_for_all)
    (kk_clocks_for_all : PySem.W.keepIn K (.ref f_clocks_for_all) = true)
    (a_in_range : PySem.W.nsIn K mainGlobals "in_range" = some (some (.ref f_in_range)))
    (l_in_range : K.lookup f_in_range = some ⟨oc_in_range, od_in_range, .func (PySem.W.fnOf "in_range" "in_range" (defArgs s_in_range) (defBody s_in_range) (defScope s_in_range) .none kV_in_range dc_in_range pm_in_range an_in_range cd_in_range ct_in_range), sl_in_range⟩)
    (cc_in_range : PySem.W.codeIn K cd_in_range "in_range" = true)
    (kk_in_range : PySem.W.keepIn K (.ref f_in_range) = true)
    (a_counted : PySem.W.nsIn K mainGlobals "counted" = some (some (.ref f_counted)))
    (l_counted : K.lookup f_counted = some ⟨oc_counted, od_counted, .func (PySem.W.fnOf "counted" "counted" (defArgs s_counted) (defBody s_counted) (defScope s_counted) .none kV_counted dc_counted pm_counted an_counted cd_counted ct_counted), sl_counted⟩)
    (cc_counted : PySem.W.codeIn K cd_counted "counted" = true)
    (kk_counted : PySem.W.keepIn K (.ref f_counted) = true)
    (a_Session_init : PySem.W.findIn K (.ref C_Session) "__init__" = some (some (.ref f_Session_init)))
    (i_Session_init : PySem.W.isFn K (.ref f_Session_init) = true)
    (l_Session_init : K.lookup f_Session_init = some ⟨oc_Session_init, od_Session_init, .func (PySem.W.fnOf "__init__" "Session.__init__" (defArgs s_Session_init) (defBody s_Session_init) (defScope s_Session_init) .none kV_Session_init dc_Session_init pm_Session_init an_Session_init cd_Session_init ct_Session_init), sl_Session_init⟩)
    (cc_Session_init : PySem.W.codeIn K cd_Session_init "Session.__init__" = true)
    (kk_Session_init : PySem.W.keepIn K (.ref f_Session_init) = true)
    (a_Session_has : PySem.W.findIn K (.ref C_Session) "has" = some (some (.ref f_Session_has)))
    (i_Session_has : PySem.W.isFn K (.ref f_Session_has) = true)
    (l_Session_has : K.lookup f_Session_has = some ⟨oc_Session_has, od_Session_has, .func (PySem.W.fnOf "has" "Session.has" (defArgs s_Session_has) (defBody s_Session_has) (defScope s_Session_has) .none kV_Session_has dc_Session_has pm_Session_has an_Session_has cd_Session_has ct_Session_has), sl_Session_has⟩)
    (cc_Session_has : PySem.W.codeIn K cd_Session_has "Session.has" = true)
    (kk_Session_has : PySem.W.keepIn K (.ref f_Session_has) = true)
    (a_Session_others : PySem.W.findIn K (.ref C_Session) "others" = some (some (.ref f_Session_others)))
    (i_Session_others : PySem.W.isFn K (.ref f_Session_others) = true)
    (l_Session_others : K.lookup f_Session_others = some ⟨oc_Session_others, od_Session_others, .func (PySem.W.fnOf "others" "Session.others" (defArgs s_Session_others) (defBody s_Session_others) (defScope s_Session_others) .none kV_Session_others dc_Session_others pm_Session_others an_Session_others cd_Session_others ct_Session_others), sl_Session_others⟩)
    (cc_Session_others : PySem.W.codeIn K cd_Session_others "Session.others" = true)
    (kk_Session_others : PySem.W.keepIn K (.ref f_Session_others) = true)
    (a_Session_become : PySem.W.findIn K (.ref C_Session) "become" = some (some (.ref f_Session_become)))
    (i_Session_become : PySem.W.isFn K (.ref f_Session_become) = true)
    (l_Session_become : K.lookup f_Session_become = some ⟨oc_Session_become, od_Session_become, .func (PySem.W.fnOf "become" "Session.become" (defArgs s_Session_become) (defBody s_Session_become) (defScope s_Session_become) .none kV_Session_become dc_Session_become pm_Session_become an_Session_become cd_Session_become ct_Session_become), sl_Session_become⟩)
    (cc_Session_become : PySem.W.codeIn K cd_Session_become "Session.become" = true)
    (kk_Session_become : PySem.W.keepIn K (.ref f_Session_become) = true)
    (a_Session_begin : PySem.W.findIn K (.ref C_Session) "begin" = some (some (.ref f_Session_begin)))
    (i_Session_begin : PySem.W.isFn K (.ref f_Session_begin) = true)
    (l_Session_begin : K.lookup f_Session_begin = some ⟨oc_Session_begin, od_Session_begin, .func (PySem.W.fnOf "begin" "Session.begin" (defArgs s_Session_begin) (defBody s_Session_begin) (defScope s_Session_begin) .none kV_Session_begin dc_Session_begin pm_Session_begin an_Session_begin cd_Session_begin ct_Session_begin), sl_Session_begin⟩)
    (cc_Session_begin : PySem.W.codeIn K cd_Session_begin "Session.begin" = true)
    (kk_Session_begin : PySem.W.keepIn K (.ref f_Session_begin) = true)
    (a_Session_back : PySem.W.findIn K (.ref C_Session) "back" = some (some (.ref f_Session_back)))
    (i_Session_back : PySem.W.isFn K (.ref f_Session_back) = true)
    (l_Session_back : K.lookup f_Session_back = some ⟨oc_Session_back, od_Session_back, .func (PySem.W.fnOf "back" "Session.back" (defArgs s_Session_back) (defBody s_Session_back) (defScope s_Session_back) .none kV_Session_back dc_Session_back pm_Session_back an_Session_back cd_Session_back ct_Session_back), sl_Session_back⟩)
    (cc_Session_back : PySem.W.codeIn K cd_Session_back "Session.back" = true)
    (kk_Session_back : PySem.W.keepIn K (.ref f_Session_back) = true)
    (a_Session_state : PySem.W.findIn K (.ref C_Session) "state" = some (some (.ref f_Session_state)))
    (i_Session_state : PySem.W.isFn K (.ref f_Session_state) = true)
    (l_Session_state : K.lookup f_Session_state = some ⟨oc_Session_state, od_Session_state, .func (PySem.W.fnOf "state" "Session.state" (defArgs s_Session_state) (defBody s_Session_state) (defScope s_Session_state) .none kV_Session_state dc_Session_state pm_Session_state an_Session_state cd_Session_state ct_Session_state), sl_Session_state⟩)
    (cc_Session_state : PySem.W.codeIn K cd_Session_state "Session.state" = true)
    (kk_Session_state : PySem.W.keepIn K (.ref f_Session_state) = true)
    (a_Session_put : PySem.W.findIn K (.ref C_Session) "put" = some (some (.ref f_Session_put)))
    (i_Session_put : PySem.W.isFn K (.ref f_Session_put) = true)
    (l_Session_put : K.lookup f_Session_put = some ⟨oc_Session_put, od_Session_put, .func (PySem.W.fnOf "put" "Session.put" (defArgs s_Session_put) (defBody s_Session_put) (defScope s_Session_put) .none kV_Session_put dc_Session_put pm_Session_put an_Session_put cd_Session_put ct_Session_put), sl_Session_put⟩)
    (cc_Session_put : PySem.W.codeIn K cd_Session_put "Session.put" = true)
    (kk_Session_put : PySem.W.keepIn K (.ref f_Session_put) = true)
    (a_Session_drop : PySem.W.findIn K (.ref C_Session) "drop" = some (some (.ref f_Session_drop)))
    (i_Session_drop : PySem.W.isFn K (.ref f_Session_drop) = true)
    (l_Session_drop : K.lookup f_Session_drop = some ⟨oc_Session_drop, od_Session_drop, .func (PySem.W.fnOf "drop" "Session.drop" (defArgs s_Session_drop) (defBody s_Session_drop) (defScope s_Session_drop) .none kV_Session_drop dc_Session_drop pm_Session_drop an_Session_drop cd_Session_drop ct_Session_drop), sl_Session_drop⟩)
    (cc_Session_drop : PySem.W.codeIn K cd_Session_drop "Session.drop" = true)
    (kk_Session_drop : PySem.W.keepIn K (.ref f_Session_drop) = true)
    (a_Session_move : PySem.W.findIn K (.ref C_Session) "move" = some (some (.ref f_Session_move)))
    (i_Session_move : PySem.W.isFn K (.ref f_Session_move) = true)
    (l_Session_move : K.lookup f_Session_move = some ⟨oc_Session_move, od_Session_move, .func (PySem.W.fnOf "move" "Session.move" (defArgs s_Session_move) (defBody s_Session_move) (defScope s_Session_move) .none kV_Session_move dc_Session_move pm_Session_move an_Session_move cd_Session_move ct_Session_move), sl_Session_move⟩)
    (cc_Session_move : PySem.W.codeIn K cd_Session_move "Session.move" = true)
    (kk_Session_move : PySem.W.keepIn K (.ref f_Session_move) = true)
    (a_Session_turn : PySem.W.findIn K (.ref C_Session) "turn" = some (some (.ref f_Session_turn)))
    (i_Session_turn : PySem.W.isFn K (.ref f_Session_turn) = true)
    (l_Session_turn : K.lookup f_Session_turn = some ⟨oc_Session_turn, od_Session_turn, .func (PySem.W.fnOf "turn" "Session.turn" (defArgs s_Session_turn) (defBody s_Session_turn) (defScope s_Session_turn) .none kV_Session_turn dc_Session_turn pm_Session_turn an_Session_turn cd_Session_turn ct_Session_turn), sl_Session_turn⟩)
    (cc_Session_turn : PySem.W.codeIn K cd_Session_turn "Session.turn" = true)
    (kk_Session_turn : PySem.W.keepIn K (.ref f_Session_turn) = true)
    (a_Session_events : PySem.W.findIn K (.ref C_Session) "events" = some (some (.ref f_Session_events)))
    (i_Session_events : PySem.W.isFn K (.ref f_Session_events) = true)
    (l_Session_events : K.lookup f_Session_events = some ⟨oc_Session_events, od_Session_events, .func (PySem.W.fnOf "events" "Session.events" (defArgs s_Session_events) (defBody s_Session_events) (defScope s_Session_events) .none kV_Session_events dc_Session_events pm_Session_events an_Session_events cd_Session_events ct_Session_events), sl_Session_events⟩)
    (cc_Session_events : PySem.W.codeIn K cd_Session_events "Session.events" = true)
    (kk_Session_events : PySem.W.keepIn K (.ref f_Session_events) = true)
    (a_Session_heard : PySem.W.findIn K (.ref C_Session) "heard" = some (some (.ref f_Session_heard)))
    (i_Session_heard : PySem.W.isFn K (.ref f_Session_heard) = true)
    (l_Session_heard : K.lookup f_Session_heard = some ⟨oc_Session_heard, od_Session_heard, .func (PySem.W.fnOf "heard" "Session.heard" (defArgs s_Session_heard) (defBody s_Session_heard) (defScope s_Session_heard) .none kV_Session_heard dc_Session_heard pm_Session_heard an_Session_heard cd_Session_heard ct_Session_heard), sl_Session_heard⟩)
    (cc_Session_heard : PySem.W.codeIn K cd_Session_heard "Session.heard" = true)
    (kk_Session_heard : PySem.W.keepIn K (.ref f_Session_heard) = true)
    (a_Session_kind : PySem.W.findIn K (.ref C_Session) "kind" = some (some (.ref f_Session_kind)))
    (i_Session_kind : PySem.W.isFn K (.ref f_Session_kind) = true)
    (l_Session_kind : K.lookup f_Session_kind = some ⟨oc_Session_kind, od_Session_kind, .func (PySem.W.fnOf "kind" "Session.kind" (defArgs s_Session_kind) (defBody s_Session_kind) (defScope s_Session_kind) .none kV_Session_kind dc_Session_kind pm_Session_kind an_Session_kind cd_Session_kind ct_Session_kind), sl_Session_kind⟩)
    (cc_Session_kind : PySem.W.codeIn K cd_Session_kind "Session.kind" = true)
    (kk_Session_kind : PySem.W.keepIn K (.ref f_Session_kind) = true)
    (a_Session_square : PySem.W.findIn K (.ref C_Session) "square" = some (some (.ref f_Session_square)))
    (i_Session_square : PySem.W.isFn K (.ref f_Session_square) = true)
    (l_Session_square : K.lookup f_Session_square = some ⟨oc_Session_square, od_Session_square, .func (PySem.W.fnOf "square" "Session.square" (defArgs s_Session_square) (defBody s_Session_square) (defScope s_Session_square) .none kV_Session_square dc_Session_square pm_Session_square an_Session_square cd_Session_square ct_Session_square), sl_Session_square⟩)
    (cc_Session_square : PySem.W.codeIn K cd_Session_square "Session.square" = true)
    (kk_Session_square : PySem.W.keepIn K (.ref f_Session_square) = true)
    (a_Session_past : PySem.W.findIn K (.ref C_Session) "past" = some (some (.ref f_Session_past)))
    (i_Session_past : PySem.W.isFn K (.ref f_Session_past) = true)
    (l_Session_past : K.lookup f_Session_past = some ⟨oc_Session_past, od_Session_past, .func (PySem.W.fnOf "past" "Session.past" (defArgs s_Session_past) (defBody s_Session_past) (defScope s_Session_past) .none kV_Session_past dc_Session_past pm_Session_past an_Session_past cd_Session_past ct_Session_past), sl_Session_past⟩)
    (cc_Session_past : PySem.W.codeIn K cd_Session_past "Session.past" = true)
    (kk_Session_past : PySem.W.keepIn K (.ref f_Session_past) = true)
    (a_Session_future : PySem.W.findIn K (.ref C_Session) "future" = some (some (.ref f_Session_future)))
    (i_Session_future : PySem.W.isFn K (.ref f_Session_future) = true)
    (l_Session_future : K.lookup f_Session_future = some ⟨oc_Session_future, od_Session_future, .func (PySem.W.fnOf "future" "Session.future" (defArgs s_Session_future) (defBody s_Session_future) (defScope s_Session_future) .none kV_Session_future dc_Session_future pm_Session_future an_Session_future cd_Session_future ct_Session_future), sl_Session_future⟩)
    (cc_Session_future : PySem.W.codeIn K cd_Session_future "Session.future" = true)
    (kk_Session_future : PySem.W.keepIn K (.ref f_Session_future) = true)
    (a_Session_between : PySem.W.findIn K (.ref C_Session) "between" = some (some (.ref f_Session_between)))
    (i_Session_between : PySem.W.isFn K (.ref f_Session_between) = true)
    (l_Session_between : K.lookup f_Session_between = some ⟨oc_Session_between, od_Session_between, .func (PySem.W.fnOf "between" "Session.between" (defArgs s_Session_between) (defBody s_Session_between) (defScope s_Session_between) .none kV_Session_between dc_Session_between pm_Session_between an_Session_between cd_Session_between ct_Session_between), sl_Session_between⟩)
    (cc_Session_between : PySem.W.codeIn K cd_Session_between "Session.between" = true)
    (kk_Session_between : PySem.W.keepIn K (.ref f_Session_between) = true)
    (a_Session_aside : PySem.W.findIn K (.ref C_Session) "aside" = some (some (.ref f_Session_aside)))
    (i_Session_aside : PySem.W.isFn K (.ref f_Session_aside) = true)
    (l_Session_aside : K.lookup f_Session_aside = some ⟨oc_Session_aside, od_Session_aside, .func (PySem.W.fnOf "aside" "Session.aside" (defArgs s_Session_aside) (defBody s_Session_aside) (defScope s_Session_aside) .none kV_Session_aside dc_Session_aside pm_Session_aside an_Session_aside cd_Session_aside ct_Session_aside), sl_Session_aside⟩)
    (cc_Session_aside : PySem.W.codeIn K cd_Session_aside "Session.aside" = true)
    (kk_Session_aside : PySem.W.keepIn K (.ref f_Session_aside) = true)
    (a_Session_first : PySem.W.findIn K (.ref C_Session) "first" = some (some (.ref f_Session_first)))
    (i_Session_first : PySem.W.isFn K (.ref f_Session_first) = true)
    (l_Session_first : K.lookup f_Session_first = some ⟨oc_Session_first, od_Session_first, .func (PySem.W.fnOf "first" "Session.first" (defArgs s_Session_first) (defBody s_Session_first) (defScope s_Session_first) .none kV_Session_first dc_Session_first pm_Session_first an_Session_first cd_Session_first ct_Session_first), sl_Session_first⟩)
    (cc_Session_first : PySem.W.codeIn K cd_Session_first "Session.first" = true)
    (kk_Session_first : PySem.W.keepIn K (.ref f_Session_first) = true)
    (a_Session_last : PySem.W.findIn K (.ref C_Session) "last" = some (some (.ref f_Session_last)))
    (i_Session_last : PySem.W.isFn K (.ref f_Session_last) = true)
    (l_Session_last : K.lookup f_Session_last = some ⟨oc_Session_last, od_Session_last, .func (PySem.W.fnOf "last" "Session.last" (defArgs s_Session_last) (defBody s_Session_last) (defScope s_Session_last) .none kV_Session_last dc_Session_last pm_Session_last an_Session_last cd_Session_last ct_Session_last), sl_Session_last⟩)
    (cc_Session_last : PySem.W.codeIn K cd_Session_last "Session.last" = true)
    (kk_Session_last : PySem.W.keepIn K (.ref f_Session_last) = true)
    (a_Session_reach : PySem.W.findIn K (.ref C_Session) "reach" = some (some (.ref f_Session_reach)))
    (i_Session_reach : PySem.W.isFn K (.ref f_Session_reach) = true)
    (l_Session_reach : K.lookup f_Session_reach = some ⟨oc_Session_reach, od_Session_reach, .func (PySem.W.fnOf "reach" "Session.reach" (defArgs s_Session_reach) (defBody s_Session_reach) (defScope s_Session_reach) .none kV_Session_reach dc_Session_reach pm_Session_reach an_Session_reach cd_Session_reach ct_Session_reach), sl_Session_reach⟩)
    (cc_Session_reach : PySem.W.codeIn K cd_Session_reach "Session.reach" = true)
    (kk_Session_reach : PySem.W.keepIn K (.ref f_Session_reach) = true)
    (a_Session_by : PySem.W.findIn K (.ref C_Session) "by" = some (some (.ref f_Session_by)))
    (i_Session_by : PySem.W.isFn K (.ref f_Session_by) = true)
    (l_Session_by : K.lookup f_Session_by = some ⟨oc_Session_by, od_Session_by, .func (PySem.W.fnOf "by" "Session.by" (defArgs s_Session_by) (defBody s_Session_by) (defScope s_Session_by) .none kV_Session_by dc_Session_by pm_Session_by an_Session_by cd_Session_by ct_Session_by), sl_Session_by⟩)
    (cc_Session_by : PySem.W.codeIn K cd_Session_by "Session.by" = true)
    (kk_Session_by : PySem.W.keepIn K (.ref f_Session_by) = true)
    (a_Session_long : PySem.W.findIn K (.ref C_Session) "long" = some (some (.ref f_Session_long)))
    (i_Session_long : PySem.W.isFn K (.ref f_Session_long) = true)
    (l_Session_long : K.lookup f_Session_long = some ⟨oc_Session_long, od_Session_long, .func (PySem.W.fnOf "long" "Session.long" (defArgs s_Session_long) (defBody s_Session_long) (defScope s_Session_long) .none kV_Session_long dc_Session_long pm_Session_long an_Session_long cd_Session_long ct_Session_long), sl_Session_long⟩)
    (cc_Session_long : PySem.W.codeIn K cd_Session_long "Session.long" = true)
    (kk_Session_long : PySem.W.keepIn K (.ref f_Session_long) = true)
    (a_Session_longest : PySem.W.findIn K (.ref C_Session) "longest" = some (some (.ref f_Session_longest)))
    (i_Session_longest : PySem.W.isFn K (.ref f_Session_longest) = true)
    (l_Session_longest : K.lookup f_Session_longest = some ⟨oc_Session_longest, od_Session_longest, .func (PySem.W.fnOf "longest" "Session.longest" (defArgs s_Session_longest) (defBody s_Session_longest) (defScope s_Session_longest) .none kV_Session_longest dc_Session_longest pm_Session_longest an_Session_longest cd_Session_longest ct_Session_longest), sl_Session_longest⟩)
    (cc_Session_longest : PySem.W.codeIn K cd_Session_longest "Session.longest" = true)
    (kk_Session_longest : PySem.W.keepIn K (.ref f_Session_longest) = true)
    (a_Session_clock : PySem.W.findIn K (.ref C_Session) "clock" = some (some (.ref f_Session_clock)))
    (i_Session_clock : PySem.W.isFn K (.ref f_Session_clock) = true)
    (l_Session_clock : K.lookup f_Session_clock = some ⟨oc_Session_clock, od_Session_clock, .func (PySem.W.fnOf "clock" "Session.clock" (defArgs s_Session_clock) (defBody s_Session_clock) (defScope s_Session_clock) .none kV_Session_clock dc_Session_clock pm_Session_clock an_Session_clock cd_Session_clock ct_Session_clock), sl_Session_clock⟩)
    (cc_Session_clock : PySem.W.codeIn K cd_Session_clock "Session.clock" = true)
    (kk_Session_clock : PySem.W.keepIn K (.ref f_Session_clock) = true)
    (a_Session_most : PySem.W.findIn K (.ref C_Session) "most" = some (some (.ref f_Session_most)))
    (i_Session_most : PySem.W.isFn K (.ref f_Session_most) = true)
    (l_Session_most : K.lookup f_Session_most = some ⟨oc_Session_most, od_Session_most, .func (PySem.W.fnOf "most" "Session.most" (defArgs s_Session_most) (defBody s_Session_most) (defScope s_Session_most) .none kV_Session_most dc_Session_most pm_Session_most an_Session_most cd_Session_most ct_Session_most), sl_Session_most⟩)
    (cc_Session_most : PySem.W.codeIn K cd_Session_most "Session.most" = true)
    (kk_Session_most : PySem.W.keepIn K (.ref f_Session_most) = true)
    (a_Session_clocks : PySem.W.findIn K (.ref C_Session) "clocks" = some (some (.ref f_Session_clocks)))
    (i_Session_clocks : PySem.W.isFn K (.ref f_Session_clocks) = true)
    (l_Session_clocks : K.lookup f_Session_clocks = some ⟨oc_Session_clocks, od_Session_clocks, .func (PySem.W.fnOf "clocks" "Session.clocks" (defArgs s_Session_clocks) (defBody s_Session_clocks) (defScope s_Session_clocks) .none kV_Session_clocks dc_Session_clocks pm_Session_clocks an_Session_clocks cd_Session_clocks ct_Session_clocks), sl_Session_clocks⟩)
    (cc_Session_clocks : PySem.W.codeIn K cd_Session_clocks "Session.clocks" = true)
    (kk_Session_clocks : PySem.W.keepIn K (.ref f_Session_clocks) = true)
    (a_change : PySem.W.nsIn K mainGlobals "change" = some (some (.ref f_change)))
    (l_change : K.lookup f_change = some ⟨oc_change, od_change, .func (PySem.W.fnOf "change" "change" (defArgs s_change) (defBody s_change) (defScope s_change) .none kV_change dc_change pm_change an_change cd_change ct_change), sl_change⟩)
    (cc_change : PySem.W.codeIn K cd_change "change" = true)
    (kk_change : PySem.W.keepIn K (.ref f_change) = true)
    (a_tell_heard : PySem.W.nsIn K mainGlobals "tell_heard" = some (some (.ref f_tell_heard)))
    (l_tell_heard : K.lookup f_tell_heard = some ⟨oc_tell_heard, od_tell_heard, .func (PySem.W.fnOf "tell_heard" "tell_heard" (defArgs s_tell_heard) (defBody s_tell_heard) (defScope s_tell_heard) .none kV_tell_heard dc_tell_heard pm_tell_heard an_tell_heard cd_tell_heard ct_tell_heard), sl_tell_heard⟩)
    (cc_tell_heard : PySem.W.codeIn K cd_tell_heard "tell_heard" = true)
    (kk_tell_heard : PySem.W.keepIn K (.ref f_tell_heard) = true)
    (a_tell_light : PySem.W.nsIn K mainGlobals "tell_light" = some (some (.ref f_tell_light)))
    (l_tell_light : K.lookup f_tell_light = some ⟨oc_tell_light, od_tell_light, .func (PySem.W.fnOf "tell_light" "tell_light" (defArgs s_tell_light) (defBody s_tell_light) (defScope s_tell_light) .none kV_tell_light dc_tell_light pm_tell_light an_tell_light cd_tell_light ct_tell_light), sl_tell_light⟩)
    (cc_tell_light : PySem.W.codeIn K cd_tell_light "tell_light" = true)
    (kk_tell_light : PySem.W.keepIn K (.ref f_tell_light) = true)
    (a_tell_rows : PySem.W.nsIn K mainGlobals "tell_rows" = some (some (.ref f_tell_rows)))
    (l_tell_rows : K.lookup f_tell_rows = some ⟨oc_tell_rows, od_tell_rows, .func (PySem.W.fnOf "tell_rows" "tell_rows" (defArgs s_tell_rows) (defBody s_tell_rows) (defScope s_tell_rows) .none kV_tell_rows dc_tell_rows pm_tell_rows an_tell_rows cd_tell_rows ct_tell_rows), sl_tell_rows⟩)
    (cc_tell_rows : PySem.W.codeIn K cd_tell_rows "tell_rows" = true)
    (kk_tell_rows : PySem.W.keepIn K (.ref f_tell_rows) = true)
    (a_answer : PySem.W.nsIn K mainGlobals "answer" = some (some (.ref f_answer)))
    (l_answer : K.lookup f_answer = some ⟨oc_answer, od_answer, .func (PySem.W.fnOf "answer" "answer" (defArgs s_answer) (defBody s_answer) (defScope s_answer) .none kV_answer dc_answer pm_answer an_answer cd_answer ct_answer), sl_answer⟩)
    (cc_answer : PySem.W.codeIn K cd_answer "answer" = true)
    (kk_answer : PySem.W.keepIn K (.ref f_answer) = true)
    (a_answers : PySem.W.nsIn K mainGlobals "answers" = some (some (.ref f_answers)))
    (l_answers : K.lookup f_answers = some ⟨oc_answers, od_answers, .func (PySem.W.fnOf "answers" "answers" (defArgs s_answers) (defBody s_answers) (defScope s_answers) .none kV_answers dc_answers pm_answers an_answers cd_answers ct_answers), sl_answers⟩)
    (cc_answers : PySem.W.codeIn K cd_answers "answers" = true)
    (kk_answers : PySem.W.keepIn K (.ref f_answers) = true)
    (nd_P : ((tabsT P_row_lengths P_most_apart P_clocks_for_all).map (·.1)).Nodup)
    : ∃ (fd : FuncData) (cs : List (Addr × Addr)) (sp : Sp), (∀ p ∈ cs, h.get? p.2 = some { cls := .none, data := .fields #[] }) ∧ (∀ p ∈ cs, K.lookup p.2 = none) ∧ (∀ p ∈ cs, PySem.W.CodeHd h p.1 p.2) ∧
      (∀ (s : Shared) (us : List Value), us.length = (["calls"] : List Str).length → BindsTo s fd ⟨us, []⟩ ((["calls"] : List Str).zip us)) ∧
      (∀ (H : Hp) (xs : List V) (a : Codec.denoteAll PySem.Challenge.rw_lightevents_s01_answers.args), (∀ p ∈ cs, H p.2 = some (.tbl #[])) → Codec.withinAll PySem.Challenge.rw_lightevents_s01_answers.args a = true → Codec.app PySem.Challenge.rw_lightevents_s01_answers.args PySem.Challenge.rw_lightevents_s01_answers.asked a = true → DwAll K H xs (Codec.encAll PySem.Challenge.rw_lightevents_s01_answers.args a) → sp xs H (fun v H' => Dw K H' v (PySem.Challenge.rw_lightevents_s01_answers.ret.enc (Codec.app PySem.Challenge.rw_lightevents_s01_answers.args PySem.Challenge.rw_lightevents_s01_answers.f a))) fun _ _ _ => False) ∧
      ∀ base : Heap, K.In base → base.Ns mainGlobals mg → (∀ p ∈ cs, LamX.TabB base mg p.1 p.2) → FnOk PySem.Challenge.rw_lightevents_s01_answers.prog w K mg base CX0 9 fa fd ["calls"] sp := by
  have e := hfa.symm.trans (PySem.W.mg_of X G a_answers)
  cases e
  have T : Txt K mg C_Session a_GIVEN_COUNTS P_row_lengths P_most_apart P_clocks_for_all := {
    g_SAME := ⟨_, PySem.W.mg_of X G g_SAME⟩
    g_HEARD_BY_LIGHT := ⟨_, PySem.W.mg_of X G g_HEARD_BY_LIGHT⟩
    g_HEARD_SLOWER := ⟨_, PySem.W.mg_of X G g_HEARD_SLOWER⟩
    g_NEITHER := ⟨_, PySem.W.mg_of X G g_NEITHER⟩
    g_HEARS_BY_LIGHT := ⟨_, PySem.W.mg_of X G g_HEARS_BY_LIGHT⟩
    g_HEARS_SLOWER := ⟨_, PySem.W.mg_of X G g_HEARS_SLOWER⟩
    g_MOST_EVENTS := ⟨_, PySem.W.mg_of X G g_MOST_EVENTS⟩
    g_MOST_BACK := ⟨_, PySem.W.mg_of X G g_MOST_BACK⟩
    g_FARTHEST := ⟨_, PySem.W.mg_of X G g_FARTHEST⟩
    g_NO_EVENT := ⟨_, PySem.W.mg_of X G g_NO_EVENT⟩
    g_NO_CHANGE := ⟨_, PySem.W.mg_of X G g_NO_CHANGE⟩
    g_OUT_OF_RANGE := ⟨_, PySem.W.mg_of X G g_OUT_OF_RANGE⟩
    g_TOO_MANY := ⟨_, PySem.W.mg_of X G g_TOO_MANY⟩
    g_THERE_IS_NONE := ⟨_, PySem.W.mg_of X G g_THERE_IS_NONE⟩
    g_BEGIN := ⟨_, PySem.W.mg_of X G g_BEGIN⟩
    g_PUT := ⟨_, PySem.W.mg_of X G g_PUT⟩
    g_DROP := ⟨_, PySem.W.mg_of X G g_DROP⟩
    g_MOVE := ⟨_, PySem.W.mg_of X G g_MOVE⟩
    g_TURN := ⟨_, PySem.W.mg_of X G g_TURN⟩
    g_EVENTS := ⟨_, PySem.W.mg_of X G g_EVENTS⟩
    g_HEARD := ⟨_, PySem.W.mg_of X G g_HEARD⟩
    g_KIND := ⟨_, PySem.W.mg_of X G g_KIND⟩
    g_SQUARE := ⟨_, PySem.W.mg_of X G g_SQUARE⟩
    g_PAST := ⟨_, PySem.W.mg_of X G g_PAST⟩
    g_FUTURE := ⟨_, PySem.W.mg_of X G g_FUTURE⟩
    g_BETWEEN := ⟨_, PySem.W.mg_of X G g_BETWEEN⟩
    g_ASIDE := ⟨_, PySem.W.mg_of X G g_ASIDE⟩
    g_FIRST := ⟨_, PySem.W.mg_of X G g_FIRST⟩
    g_LAST := ⟨_, PySem.W.mg_of X G g_LAST⟩
    g_REACH := ⟨_, PySem.W.mg_of X G g_REACH⟩
    g_BY := ⟨_, PySem.W.mg_of X G g_BY⟩
    g_LONG := ⟨_, PySem.W.mg_of X G g_LONG⟩
    g_LONGEST := ⟨_, PySem.W.mg_of X G g_LONGEST⟩
    g_CLOCK := ⟨_, PySem.W.mg_of X G g_CLOCK⟩
    g_MOST := ⟨_, PySem.W.mg_of X G g_MOST⟩
    g_CLOCKS := ⟨_, PySem.W.mg_of X G g_CLOCKS⟩
    g_BACK := ⟨_, PySem.W.mg_of X G g_BACK⟩
    g_GIVEN_COUNTS := PySem.W.mg_of X G g_GIVEN_COUNTS
    t_GIVEN_COUNTS := fun H => .inr ⟨o_GIVEN_COUNTS, _, _, l_GIVEN_COUNTS, d_GIVEN_COUNTS.1, d_GIVEN_COUNTS.2, (by show 24 ≤ sizeLine; decide), .cons ⟨_, rfl⟩ (.cons ⟨_, rfl⟩ (.cons ⟨_, rfl⟩ (.cons ⟨_, rfl⟩ (.cons ⟨_, rfl⟩ (.cons ⟨_, rfl⟩ (.cons ⟨_, rfl⟩ (.cons ⟨_, rfl⟩ (.cons ⟨_, rfl⟩ (.cons ⟨_, rfl⟩ (.cons ⟨_, rfl⟩ (.cons ⟨_, rfl⟩ (.cons ⟨_, rfl⟩ (.cons ⟨_, rfl⟩ (.cons ⟨_, rfl⟩ (.cons ⟨_, rfl⟩ (.cons ⟨_, rfl⟩ (.cons ⟨_, rfl⟩ (.cons ⟨_, rfl⟩ (.cons ⟨_, rfl⟩ (.cons ⟨_, rfl⟩ (.cons ⟨_, rfl⟩ (.cons ⟨_, rfl⟩ (.cons ⟨_, rfl⟩ (.nil))))))))))))))))))))))))⟩
    g_NOT_BEGUN := ⟨_, PySem.W.mg_of X G g_NOT_BEGUN⟩
    nd_P := nd_P
    n_abs := PySem.W.mg_none_of X G n_abs
    n_enumerate := PySem.W.mg_none_of X G n_enumerate
    n_len := PySem.W.mg_none_of X G n_len
    n_max := PySem.W.mg_none_of X G n_max
    n_min := PySem.W.mg_none_of X G n_min
    n_range := PySem.W.mg_none_of X G n_range
    n_sorted := PySem.W.mg_none_of X G n_sorted
    c_Session := PySem.W.mg_of X G c_Session
    cl_Session := ⟨pg_Session, hd_Session, po_Session, sa_Session⟩
    f_Session_begun := f_Session_begun
    f_Session_points := f_Session_points
    f_Session_earlier := f_Session_earlier }
  have F_is_heard := fun_mk (st := s_is_heard) l_is_heard cc_is_heard kk_is_heard
  have b_is_heard := F_is_heard.binds (ps := ["one", "two"]) fun _ _ _ _ _ _ us hl => match us, hl with | [_, _], _ => rfl
  have F_is_apart_below := fun_mk (st := s_is_apart_below) l_is_apart_below cc_is_apart_below kk_is_apart_below
  have b_is_apart_below := F_is_apart_below.binds (ps := ["one", "two"]) fun _ _ _ _ _ _ us hl => match us, hl with | [_, _], _ => rfl
  have F_square_of := fun_mk (st := s_square_of) l_square_of cc_square_of kk_square_of
  have b_square_of := F_square_of.binds (ps := ["one", "two"]) fun _ _ _ _ _ _ us hl => match us, hl with | [_, _], _ => rfl
  have F_kind_of := fun_mk (st := s_kind_of) l_kind_of cc_kind_of kk_kind_of
  have b_kind_of := F_kind_of.binds (ps := ["one", "two"]) fun _ _ _ _ _ _ us hl => match us, hl with | [_, _], _ => rfl
  have F_time_less_place := fun_mk (st := s_time_less_place) l_time_less_place cc_time_less_place kk_time_less_place
  have b_time_less_place := F_time_less_place.binds (ps := ["point"]) fun _ _ _ _ _ _ us hl => match us, hl with | [_], _ => rfl
  have F_time_and_place := fun_mk (st := s_time_and_place) l_time_and_place cc_time_and_place kk_time_and_place
  have b_time_and_place := F_time_and_place.binds (ps := ["point"]) fun _ _ _ _ _ _ us hl => match us, hl with | [_], _ => rfl
  have F_halves := fun_mk (st := s_halves) l_halves cc_halves kk_halves
  have b_halves := F_halves.binds (ps := ["number"]) fun _ _ _ _ _ _ us hl => match us, hl with | [_], _ => rfl
  have F_crossing := fun_mk (st := s_crossing) l_crossing cc_crossing kk_crossing
  have b_crossing := F_crossing.binds (ps := ["less", "both"]) fun _ _ _ _ _ _ us hl => match us, hl with | [_, _], _ => rfl
  have F_first_of := fun_mk (st := s_first_of) l_first_of cc_first_of kk_first_of
  have b_first_of := F_first_of.binds (ps := ["one", "two"]) fun _ _ _ _ _ _ us hl => match us, hl with | [_, _], _ => rfl
  have F_last_of := fun_mk (st := s_last_of) l_last_of cc_last_of kk_last_of
  have b_last_of := F_last_of.binds (ps := ["one", "two"]) fun _ _ _ _ _ _ us hl => match us, hl with | [_, _], _ => rfl
  have F_may_go_on := fun_mk (st := s_may_go_on) l_may_go_on cc_may_go_on kk_may_go_on
  have b_may_go_on := F_may_go_on.binds (ps := ["points", "k", "i"]) fun _ _ _ _ _ _ us hl => match us, hl with | [_, _, _], _ => rfl
  have F_row_lengths := fun_mk (st := s_row_lengths) l_row_lengths cc_row_lengths kk_row_lengths
  have b_row_lengths := F_row_lengths.binds (ps := ["points"]) fun _ _ _ _ _ _ us hl => match us, hl with | [_], _ => rfl
  have F_longest_row := fun_mk (st := s_longest_row) l_longest_row cc_longest_row kk_longest_row
  have b_longest_row := F_longest_row.binds (ps := ["points"]) fun _ _ _ _ _ _ us hl => match us, hl with | [_], _ => rfl
  have F_clock_of := fun_mk (st := s_clock_of) l_clock_of cc_clock_of kk_clock_of
  have b_clock_of := F_clock_of.binds (ps := ["points"]) fun _ _ _ _ _ _ us hl => match us, hl with | [_], _ => rfl
  have F_most_apart := fun_mk (st := s_most_apart) l_most_apart cc_most_apart kk_most_apart
  have b_most_apart := F_most_apart.binds (ps := ["points"]) fun _ _ _ _ _ _ us hl => match us, hl with | [_], _ => rfl
  have F_clock_to_take := fun_mk (st := s_clock_to_take) l_clock_to_take cc_clock_to_take kk_clock_to_take
  have b_clock_to_take := F_clock_to_take.binds (ps := ["lasts", "own"]) fun _ _ _ _ _ _ us hl => match us, hl with | [_, _], _ => rfl
  have F_clocks_for_all := fun_mk (st := s_clocks_for_all) l_clocks_for_all cc_clocks_for_all kk_clocks_for_all
  have b_clocks_for_all := F_clocks_for_all.binds (ps := ["points"]) fun _ _ _ _ _ _ us hl => match us, hl with | [_], _ => rfl
  have F_in_range := fun_mk (st := s_in_range) l_in_range cc_in_range kk_in_range
  have b_in_range := F_in_range.binds (ps := ["number"]) fun _ _ _ _ _ _ us hl => match us, hl with | [_], _ => rfl
  have F_counted := fun_mk (st := s_counted) l_counted cc_counted kk_counted
  have b_counted := F_counted.binds (ps := ["numbers"]) fun _ _ _ _ _ _ us hl => match us, hl with | [_], _ => rfl
  have F_Session_init := fun_mk (st := s_Session_init) l_Session_init cc_Session_init kk_Session_init
  have b_Session_init := F_Session_init.binds (ps := ["self"]) fun _ _ _ _ _ _ us hl => match us, hl with | [_], _ => rfl
  have F_Session_has := fun_mk (st := s_Session_has) l_Session_has cc_Session_has kk_Session_has
  have b_Session_has := F_Session_has.binds (ps := ["self", "i"]) fun _ _ _ _ _ _ us hl => match us, hl with | [_, _], _ => rfl
  have F_Session_others := fun_mk (st := s_Session_others) l_Session_others cc_Session_others kk_Session_others
  have b_Session_others := F_Session_others.binds (ps := ["self", "i", "j"]) fun _ _ _ _ _ _ us hl => match us, hl with | [_, _, _], _ => rfl
  have F_Session_become := fun_mk (st := s_Session_become) l_Session_become cc_Session_become kk_Session_become
  have b_Session_become := F_Session_become.binds (ps := ["self", "points"]) fun _ _ _ _ _ _ us hl => match us, hl with | [_, _], _ => rfl
  have F_Session_begin := fun_mk (st := s_Session_begin) l_Session_begin cc_Session_begin kk_Session_begin
  have b_Session_begin := F_Session_begin.binds (ps := ["self"]) fun _ _ _ _ _ _ us hl => match us, hl with | [_], _ => rfl
  have F_Session_back := fun_mk (st := s_Session_back) l_Session_back cc_Session_back kk_Session_back
  have b_Session_back := F_Session_back.binds (ps := ["self"]) fun _ _ _ _ _ _ us hl => match us, hl with | [_], _ => rfl
  have F_Session_state := fun_mk (st := s_Session_state) l_Session_state cc_Session_state kk_Session_state
  have b_Session_state := F_Session_state.binds (ps := ["self"]) fun _ _ _ _ _ _ us hl => match us, hl with | [_], _ => rfl
  have F_Session_put := fun_mk (st := s_Session_put) l_Session_put cc_Session_put kk_Session_put
  have b_Session_put := F_Session_put.binds (ps := ["self", "t", "x"]) fun _ _ _ _ _ _ us hl => match us, hl with | [_, _, _], _ => rfl
  have F_Session_drop := fun_mk (st := s_Session_drop) l_Session_drop cc_Session_drop kk_Session_drop
  have b_Session_drop := F_Session_drop.binds (ps := ["self", "i"]) fun _ _ _ _ _ _ us hl => match us, hl with | [_, _], _ => rfl
  have F_Session_move := fun_mk (st := s_Session_move) l_Session_move cc_Session_move kk_Session_move
  have b_Session_move := F_Session_move.binds (ps := ["self", "i", "t", "x"]) fun _ _ _ _ _ _ us hl => match us, hl with | [_, _, _, _], _ => rfl
  have F_Session_turn := fun_mk (st := s_Session_turn) l_Session_turn cc_Session_turn kk_Session_turn
  have b_Session_turn := F_Session_turn.binds (ps := ["self"]) fun _ _ _ _ _ _ us hl => match us, hl with | [_], _ => rfl
  have F_Session_events := fun_mk (st := s_Session_events) l_Session_events cc_Session_events kk_Session_events
  have b_Session_events := F_Session_events.binds (ps := ["self"]) fun _ _ _ _ _ _ us hl => match us, hl with | [_], _ => rfl
  have F_Session_heard := fun_mk (st := s_Session_heard) l_Session_heard cc_Session_heard kk_Session_heard
  have b_Session_heard := F_Session_heard.binds (ps := ["self", "i", "j"]) fun _ _ _ _ _ _ us hl => match us, hl with | [_, _, _], _ => rfl
  have F_Session_kind := fun_mk (st := s_Session_kind) l_Session_kind cc_Session_kind kk_Session_kind
  have b_Session_kind := F_Session_kind.binds (ps := ["self", "i", "j"]) fun _ _ _ _ _ _ us hl => match us, hl with | [_, _, _], _ => rfl
  have F_Session_square := fun_mk (st := s_Session_square) l_Session_square cc_Session_square kk_Session_square
  have b_Session_square := F_Session_square.binds (ps := ["self", "i", "j"]) fun _ _ _ _ _ _ us hl => match us, hl with | [_, _, _], _ => rfl
  have F_Session_past := fun_mk (st := s_Session_past) l_Session_past cc_Session_past kk_Session_past
  have b_Session_past := F_Session_past.binds (ps := ["self", "i"]) fun _ _ _ _ _ _ us hl => match us, hl with | [_, _], _ => rfl
  have F_Session_future := fun_mk (st := s_Session_future) l_Session_future cc_Session_future kk_Session_future
  have b_Session_future := F_Session_future.binds (ps := ["self", "i"]) fun _ _ _ _ _ _ us hl => match us, hl with | [_, _], _ => rfl
  have F_Session_between := fun_mk (st := s_Session_between) l_Session_between cc_Session_between kk_Session_between
  have b_Session_between := F_Session_between.binds (ps := ["self", "i", "j"]) fun _ _ _ _ _ _ us hl => match us, hl with | [_, _, _], _ => rfl
  have F_Session_aside := fun_mk (st := s_Session_aside) l_Session_aside cc_Session_aside kk_Session_aside
  have b_Session_aside := F_Session_aside.binds (ps := ["self", "i"]) fun _ _ _ _ _ _ us hl => match us, hl with | [_, _], _ => rfl
  have F_Session_first := fun_mk (st := s_Session_first) l_Session_first cc_Session_first kk_Session_first
  have b_Session_first := F_Session_first.binds (ps := ["self", "i", "j"]) fun _ _ _ _ _ _ us hl => match us, hl with | [_, _, _], _ => rfl
  have F_Session_last := fun_mk (st := s_Session_last) l_Session_last cc_Session_last kk_Session_last
  have b_Session_last := F_Session_last.binds (ps := ["self", "i", "j"]) fun _ _ _ _ _ _ us hl => match us, hl with | [_, _, _], _ => rfl
  have F_Session_reach := fun_mk (st := s_Session_reach) l_Session_reach cc_Session_reach kk_Session_reach
  have b_Session_reach := F_Session_reach.binds (ps := ["self", "i", "t", "x"]) fun _ _ _ _ _ _ us hl => match us, hl with | [_, _, _, _], _ => rfl
  have F_Session_by := fun_mk (st := s_Session_by) l_Session_by cc_Session_by kk_Session_by
  have b_Session_by := F_Session_by.binds (ps := ["self", "i", "t"]) fun _ _ _ _ _ _ us hl => match us, hl with | [_, _, _], _ => rfl
  have F_Session_long := fun_mk (st := s_Session_long) l_Session_long cc_Session_long kk_Session_long
  have b_Session_long := F_Session_long.binds (ps := ["self", "i"]) fun _ _ _ _ _ _ us hl => match us, hl with | [_, _], _ => rfl
  have F_Session_longest := fun_mk (st := s_Session_longest) l_Session_longest cc_Session_longest kk_Session_longest
  have b_Session_longest := F_Session_longest.binds (ps := ["self"]) fun _ _ _ _ _ _ us hl => match us, hl with | [_], _ => rfl
  have F_Session_clock := fun_mk (st := s_Session_clock) l_Session_clock cc_Session_clock kk_Session_clock
  have b_Session_clock := F_Session_clock.binds (ps := ["self"]) fun _ _ _ _ _ _ us hl => match us, hl with | [_], _ => rfl
  have F_Session_most := fun_mk (st := s_Session_most) l_Session_most cc_Session_most kk_Session_most
  have b_Session_most := F_Session_most.binds (ps := ["self"]) fun _ _ _ _ _ _ us hl => match us, hl with | [_], _ => rfl
  have F_Session_clocks := fun_mk (st := s_Session_clocks) l_Session_clocks cc_Session_clocks kk_Session_clocks
  have b_Session_clocks := F_Session_clocks.binds (ps := ["self"]) fun _ _ _ _ _ _ us hl => match us, hl with | [_], _ => rfl
  have F_change := fun_mk (st := s_change) l_change cc_change kk_change
  have b_change := F_change.binds (ps := ["session", "number", "given"]) fun _ _ _ _ _ _ us hl => match us, hl with | [_, _, _], _ => rfl
  have F_tell_heard := fun_mk (st := s_tell_heard) l_tell_heard cc_tell_heard kk_tell_heard
  have b_tell_heard := F_tell_heard.binds (ps := ["session", "number", "given"]) fun _ _ _ _ _ _ us hl => match us, hl with | [_, _, _], _ => rfl
  have F_tell_light := fun_mk (st := s_tell_light) l_tell_light cc_tell_light kk_tell_light
  have b_tell_light := F_tell_light.binds (ps := ["session", "number", "given"]) fun _ _ _ _ _ _ us hl => match us, hl with | [_, _, _], _ => rfl
  have F_tell_rows := fun_mk (st := s_tell_rows) l_tell_rows cc_tell_rows kk_tell_rows
  have b_tell_rows := F_tell_rows.binds (ps := ["session", "number", "given"]) fun _ _ _ _ _ _ us hl => match us, hl with | [_, _, _], _ => rfl
  have F_answer := fun_mk (st := s_answer) l_answer cc_answer kk_answer
  have b_answer := F_answer.binds (ps := ["session", "number", "given"]) fun _ _ _ _ _ _ us hl => match us, hl with | [_, _, _], _ => rfl
  have F_answers := fun_mk (st := s_answers) l_answers cc_answers kk_answers
  have b_answers := F_answers.binds (ps := ["calls"]) fun _ _ _ _ _ _ us hl => match us, hl with | [_], _ => rfl
  have tb_row_lengths := tab _ "row_lengths" _ _ rec_row_lengths (tabIn_of a_row_lengths l_row_lengths rfl lc_row_lengths v_row_lengths)
  have tb_most_apart := tab _ "most_apart" _ _ rec_most_apart (tabIn_of a_most_apart l_most_apart rfl lc_most_apart v_most_apart)
  have tb_clocks_for_all := tab _ "clocks_for_all" _ _ rec_clocks_for_all (tabIn_of a_clocks_for_all l_clocks_for_all rfl lc_clocks_for_all v_clocks_for_all)
  refine ⟨(PySem.W.fnOf "answers" "answers" (defArgs s_answers) (defBody s_answers) (defScope s_answers) .none kV_answers dc_answers pm_answers an_answers cd_answers ct_answers), [(c_row_lengths, P_row_lengths), (c_most_apart, P_most_apart), (c_clocks_for_all, P_clocks_for_all)], sp_answers K C_Session a_GIVEN_COUNTS P_row_lengths P_most_apart P_clocks_for_all, (List.forall_mem_cons.mpr ⟨tb_row_lengths.2, List.forall_mem_cons.mpr ⟨tb_most_apart.2, List.forall_mem_cons.mpr ⟨tb_clocks_for_all.2, fun _ z => nomatch z⟩⟩⟩), (List.forall_mem_cons.mpr ⟨np_row_lengths, List.forall_mem_cons.mpr ⟨np_most_apart, List.forall_mem_cons.mpr ⟨np_clocks_for_all, fun _ z => nomatch z⟩⟩⟩), (List.forall_mem_cons.mpr ⟨tb_row_lengths.1, List.forall_mem_cons.mpr ⟨tb_most_apart.1, List.forall_mem_cons.mpr ⟨tb_clocks_for_all.1, fun _ z => nomatch z⟩⟩⟩), fun s us hu => match us, hu with | [_], _ => .of_eq rfl, hsp_answers, fun base _ _ TBs => ?_⟩
  have h_is_heard : Df PySem.Challenge.rw_lightevents_s01_answers.prog w K mg base "is_heard" 1 ["one", "two"] (sp_is_heard K C_Session a_GIVEN_COUNTS P_row_lengths P_most_apart P_clocks_for_all) := ⟨_, _, ok_is_heard F_is_heard T len_is_heard (pure_is_heard T), PySem.W.mg_of X G a_is_heard, kk_is_heard, b_is_heard⟩
  have h_is_apart_below : Df PySem.Challenge.rw_lightevents_s01_answers.prog w K mg base "is_apart_below" 1 ["one", "two"] (sp_is_apart_below K C_Session a_GIVEN_COUNTS P_row_lengths P_most_apart P_clocks_for_all) := ⟨_, _, ok_is_apart_below F_is_apart_below T len_is_apart_below (pure_is_apart_below T), PySem.W.mg_of X G a_is_apart_below, kk_is_apart_below, b_is_apart_below⟩
  have h_square_of : Df PySem.Challenge.rw_lightevents_s01_answers.prog w K mg base "square_of" 1 ["one", "two"] (sp_square_of K C_Session a_GIVEN_COUNTS P_row_lengths P_most_apart P_clocks_for_all) := ⟨_, _, ok_square_of F_square_of T len_square_of (pure_square_of T), PySem.W.mg_of X G a_square_of, kk_square_of, b_square_of⟩
  have h_time_less_place : Df PySem.Challenge.rw_lightevents_s01_answers.prog w K mg base "time_less_place" 1 ["point"] (sp_time_less_place K C_Session a_GIVEN_COUNTS P_row_lengths P_most_apart P_clocks_for_all) := ⟨_, _, ok_time_less_place F_time_less_place T len_time_less_place (pure_time_less_place T), PySem.W.mg_of X G a_time_less_place, kk_time_less_place, b_time_less_place⟩
  have h_time_and_place : Df PySem.Challenge.rw_lightevents_s01_answers.prog w K mg base "time_and_place" 1 ["point"] (sp_time_and_place K C_Session a_GIVEN_COUNTS P_row_lengths P_most_apart P_clocks_for_all) := ⟨_, _, ok_time_and_place F_time_and_place T len_time_and_place (pure_time_and_place T), PySem.W.mg_of X G a_time_and_place, kk_time_and_place, b_time_and_place⟩
  have h_halves : Df PySem.Challenge.rw_lightevents_s01_answers.prog w K mg base "halves" 1 ["number"] (sp_halves K C_Session a_GIVEN_COUNTS P_row_lengths P_most_apart P_clocks_for_all) := ⟨_, _, ok_halves F_halves T len_halves (pure_halves T), PySem.W.mg_of X G a_halves, kk_halves, b_halves⟩
  have h_clock_to_take : Df PySem.Challenge.rw_lightevents_s01_answers.prog w K mg base "clock_to_take" 1 ["lasts", "own"] (sp_clock_to_take K C_Session a_GIVEN_COUNTS P_row_lengths P_most_apart P_clocks_for_all) := ⟨_, _, ok_clock_to_take F_clock_to_take T len_clock_to_take (pure_clock_to_take T), PySem.W.mg_of X G a_clock_to_take, kk_clock_to_take, b_clock_to_take⟩
  have h_in_range : Df PySem.Challenge.rw_lightevents_s01_answers.prog w K mg base "in_range" 1 ["number"] (sp_in_range K C_Session a_GIVEN_COUNTS P_row_lengths P_most_apart P_clocks_for_all) := ⟨_, _, ok_in_range F_in_range T len_in_range (pure_in_range T), PySem.W.mg_of X G a_in_range, kk_in_range, b_in_range⟩
  have h_counted : Df PySem.Challenge.rw_lightevents_s01_answers.prog w K mg base "counted" 1 ["numbers"] (sp_counted K C_Session a_GIVEN_COUNTS P_row_lengths P_most_apart P_clocks_for_all) := ⟨_, _, ok_counted F_counted T len_counted (pure_counted T), PySem.W.mg_of X G a_counted, kk_counted, b_counted⟩
  have h_Session_init : Mc PySem.Challenge.rw_lightevents_s01_answers.prog w K mg base C_Session 1 ["self"] (sp_Session_init K C_Session a_GIVEN_COUNTS P_row_lengths P_most_apart P_clocks_for_all) := ⟨_, _, ok_Session_init F_Session_init T len_Session_init (pure_Session_init T), ⟨mk_Session, a_Session_init, i_Session_init, kc_Session⟩, b_Session_init⟩
  have h_Session_has : Mt PySem.Challenge.rw_lightevents_s01_answers.prog w K mg base C_Session "has" 1 ["self", "i"] (sp_Session_has K C_Session a_GIVEN_COUNTS P_row_lengths P_most_apart P_clocks_for_all) := ⟨_, _, ok_Session_has F_Session_has T len_Session_has (pure_Session_has T), ⟨a_Session_has, i_Session_has, kk_Session_has⟩, b_Session_has⟩
  have h_Session_others : Mt PySem.Challenge.rw_lightevents_s01_answers.prog w K mg base C_Session "others" 1 ["self", "i", "j"] (sp_Session_others K C_Session a_GIVEN_COUNTS P_row_lengths P_most_apart P_clocks_for_all) := ⟨_, _, ok_Session_others F_Session_others T len_Session_others (pure_Session_others T), ⟨a_Session_others, i_Session_others, kk_Session_others⟩, b_Session_others⟩
  have h_Session_become : Mt PySem.Challenge.rw_lightevents_s01_answers.prog w K mg base C_Session "become" 1 ["self", "points"] (sp_Session_become K C_Session a_GIVEN_COUNTS P_row_lengths P_most_apart P_clocks_for_all) := ⟨_, _, ok_Session_become F_Session_become T len_Session_become (pure_Session_become T), ⟨a_Session_become, i_Session_become, kk_Session_become⟩, b_Session_become⟩
  have h_Session_begin : Mt PySem.Challenge.rw_lightevents_s01_answers.prog w K mg base C_Session "begin" 1 ["self"] (sp_Session_begin K C_Session a_GIVEN_COUNTS P_row_lengths P_most_apart P_clocks_for_all) := ⟨_, _, ok_Session_begin F_Session_begin T len_Session_begin (pure_Session_begin T), ⟨a_Session_begin, i_Session_begin, kk_Session_begin⟩, b_Session_begin⟩
  have h_Session_back : Mt PySem.Challenge.rw_lightevents_s01_answers.prog w K mg base C_Session "back" 1 ["self"] (sp_Session_back K C_Session a_GIVEN_COUNTS P_row_lengths P_most_apart P_clocks_for_all) := ⟨_, _, ok_Session_back F_Session_back T len_Session_back (pure_Session_back T), ⟨a_Session_back, i_Session_back, kk_Session_back⟩, b_Session_back⟩
  have h_Session_state : Mt PySem.Challenge.rw_lightevents_s01_answers.prog w K mg base C_Session "state" 1 ["self"] (sp_Session_state K C_Session a_GIVEN_COUNTS P_row_lengths P_most_apart P_clocks_for_all) := ⟨_, _, ok_Session_state F_Session_state T len_Session_state (pure_Session_state T), ⟨a_Session_state, i_Session_state, kk_Session_state⟩, b_Session_state⟩
  have h_Session_events : Mt PySem.Challenge.rw_lightevents_s01_answers.prog w K mg base C_Session "events" 1 ["self"] (sp_Session_events K C_Session a_GIVEN_COUNTS P_row_lengths P_most_apart P_clocks_for_all) := ⟨_, _, ok_Session_events F_Session_events T len_Session_events (pure_Session_events T), ⟨a_Session_events, i_Session_events, kk_Session_events⟩, b_Session_events⟩
  have h_kind_of : Df PySem.Challenge.rw_lightevents_s01_answers.prog w K mg base "kind_of" 2 ["one", "two"] (sp_kind_of K C_Session a_GIVEN_COUNTS P_row_lengths P_most_apart P_clocks_for_all) := ⟨_, _, ok_kind_of F_kind_of T h_square_of h_is_heard len_kind_of (pure_kind_of T), PySem.W.mg_of X G a_kind_of, kk_kind_of, b_kind_of⟩
  have h_crossing : Df PySem.Challenge.rw_lightevents_s01_answers.prog w K mg base "crossing" 2 ["less", "both"] (sp_crossing K C_Session a_GIVEN_COUNTS P_row_lengths P_most_apart P_clocks_for_all) := ⟨_, _, ok_crossing F_crossing T h_halves len_crossing (pure_crossing T), PySem.W.mg_of X G a_crossing, kk_crossing, b_crossing⟩
  have h_may_go_on : Df PySem.Challenge.rw_lightevents_s01_answers.prog w K mg base "may_go_on" 2 ["points", "k", "i"] (sp_may_go_on K C_Session a_GIVEN_COUNTS P_row_lengths P_most_apart P_clocks_for_all) := ⟨_, _, ok_may_go_on F_may_go_on T h_is_heard len_may_go_on (pure_may_go_on T), PySem.W.mg_of X G a_may_go_on, kk_may_go_on, b_may_go_on⟩
  have h_Session_put : Mt PySem.Challenge.rw_lightevents_s01_answers.prog w K mg base C_Session "put" 2 ["self", "t", "x"] (sp_Session_put K C_Session a_GIVEN_COUNTS P_row_lengths P_most_apart P_clocks_for_all) := ⟨_, _, ok_Session_put F_Session_put T h_in_range h_Session_become len_Session_put (pure_Session_put T), ⟨a_Session_put, i_Session_put, kk_Session_put⟩, b_Session_put⟩
  have h_Session_drop : Mt PySem.Challenge.rw_lightevents_s01_answers.prog w K mg base C_Session "drop" 2 ["self", "i"] (sp_Session_drop K C_Session a_GIVEN_COUNTS P_row_lengths P_most_apart P_clocks_for_all) := ⟨_, _, ok_Session_drop F_Session_drop T h_Session_has h_Session_become len_Session_drop (pure_Session_drop T), ⟨a_Session_drop, i_Session_drop, kk_Session_drop⟩, b_Session_drop⟩
  have h_Session_move : Mt PySem.Challenge.rw_lightevents_s01_answers.prog w K mg base C_Session "move" 2 ["self", "i", "t", "x"] (sp_Session_move K C_Session a_GIVEN_COUNTS P_row_lengths P_most_apart P_clocks_for_all) := ⟨_, _, ok_Session_move F_Session_move T h_in_range h_Session_has h_Session_become len_Session_move (pure_Session_move T), ⟨a_Session_move, i_Session_move, kk_Session_move⟩, b_Session_move⟩
  have h_Session_turn : Mt PySem.Challenge.rw_lightevents_s01_answers.prog w K mg base C_Session "turn" 2 ["self"] (sp_Session_turn K C_Session a_GIVEN_COUNTS P_row_lengths P_most_apart P_clocks_for_all) := ⟨_, _, ok_Session_turn F_Session_turn T h_Session_become len_Session_turn (pure_Session_turn T), ⟨a_Session_turn, i_Session_turn, kk_Session_turn⟩, b_Session_turn⟩
  have h_Session_heard : Mt PySem.Challenge.rw_lightevents_s01_answers.prog w K mg base C_Session "heard" 2 ["self", "i", "j"] (sp_Session_heard K C_Session a_GIVEN_COUNTS P_row_lengths P_most_apart P_clocks_for_all) := ⟨_, _, ok_Session_heard F_Session_heard T h_is_heard h_Session_has len_Session_heard (pure_Session_heard T), ⟨a_Session_heard, i_Session_heard, kk_Session_heard⟩, b_Session_heard⟩
  have h_Session_square : Mt PySem.Challenge.rw_lightevents_s01_answers.prog w K mg base C_Session "square" 2 ["self", "i", "j"] (sp_Session_square K C_Session a_GIVEN_COUNTS P_row_lengths P_most_apart P_clocks_for_all) := ⟨_, _, ok_Session_square F_Session_square T h_square_of h_Session_has len_Session_square (pure_Session_square T), ⟨a_Session_square, i_Session_square, kk_Session_square⟩, b_Session_square⟩
  have h_Session_past : Mt PySem.Challenge.rw_lightevents_s01_answers.prog w K mg base C_Session "past" 2 ["self", "i"] (sp_Session_past K C_Session a_GIVEN_COUNTS P_row_lengths P_most_apart P_clocks_for_all) := ⟨_, _, ok_Session_past F_Session_past T h_counted h_is_heard h_Session_has h_Session_others len_Session_past (pure_Session_past T), ⟨a_Session_past, i_Session_past, kk_Session_past⟩, b_Session_past⟩
  have h_Session_future : Mt PySem.Challenge.rw_lightevents_s01_answers.prog w K mg base C_Session "future" 2 ["self", "i"] (sp_Session_future K C_Session a_GIVEN_COUNTS P_row_lengths P_most_apart P_clocks_for_all) := ⟨_, _, ok_Session_future F_Session_future T h_counted h_is_heard h_Session_has h_Session_others len_Session_future (pure_Session_future T), ⟨a_Session_future, i_Session_future, kk_Session_future⟩, b_Session_future⟩
  have h_Session_between : Mt PySem.Challenge.rw_lightevents_s01_answers.prog w K mg base C_Session "between" 2 ["self", "i", "j"] (sp_Session_between K C_Session a_GIVEN_COUNTS P_row_lengths P_most_apart P_clocks_for_all) := ⟨_, _, ok_Session_between F_Session_between T h_is_heard h_counted h_Session_has h_Session_others len_Session_between (pure_Session_between T), ⟨a_Session_between, i_Session_between, kk_Session_between⟩, b_Session_between⟩
  have h_Session_reach : Mt PySem.Challenge.rw_lightevents_s01_answers.prog w K mg base C_Session "reach" 2 ["self", "i", "t", "x"] (sp_Session_reach K C_Session a_GIVEN_COUNTS P_row_lengths P_most_apart P_clocks_for_all) := ⟨_, _, ok_Session_reach F_Session_reach T h_in_range h_is_heard h_Session_has len_Session_reach (pure_Session_reach T), ⟨a_Session_reach, i_Session_reach, kk_Session_reach⟩, b_Session_reach⟩
  have h_Session_by : Mt PySem.Challenge.rw_lightevents_s01_answers.prog w K mg base C_Session "by" 2 ["self", "i", "t"] (sp_Session_by K C_Session a_GIVEN_COUNTS P_row_lengths P_most_apart P_clocks_for_all) := ⟨_, _, ok_Session_by F_Session_by T h_in_range h_Session_has len_Session_by (pure_Session_by T), ⟨a_Session_by, i_Session_by, kk_Session_by⟩, b_Session_by⟩
  have h_first_of : Df PySem.Challenge.rw_lightevents_s01_answers.prog w K mg base "first_of" 3 ["one", "two"] (sp_first_of K C_Session a_GIVEN_COUNTS P_row_lengths P_most_apart P_clocks_for_all) := ⟨_, _, ok_first_of F_first_of T h_crossing h_time_and_place h_time_less_place len_first_of (pure_first_of T), PySem.W.mg_of X G a_first_of, kk_first_of, b_first_of⟩
  have h_last_of : Df PySem.Challenge.rw_lightevents_s01_answers.prog w K mg base "last_of" 3 ["one", "two"] (sp_last_of K C_Session a_GIVEN_COUNTS P_row_lengths P_most_apart P_clocks_for_all) := ⟨_, _, ok_last_of F_last_of T h_crossing h_time_and_place h_time_less_place len_last_of (pure_last_of T), PySem.W.mg_of X G a_last_of, kk_last_of, b_last_of⟩
  have h_Session_kind : Mt PySem.Challenge.rw_lightevents_s01_answers.prog w K mg base C_Session "kind" 3 ["self", "i", "j"] (sp_Session_kind K C_Session a_GIVEN_COUNTS P_row_lengths P_most_apart P_clocks_for_all) := ⟨_, _, ok_Session_kind F_Session_kind T h_kind_of h_Session_has len_Session_kind (pure_Session_kind T), ⟨a_Session_kind, i_Session_kind, kk_Session_kind⟩, b_Session_kind⟩
  have h_Session_aside : Mt PySem.Challenge.rw_lightevents_s01_answers.prog w K mg base C_Session "aside" 3 ["self", "i"] (sp_Session_aside K C_Session a_GIVEN_COUNTS P_row_lengths P_most_apart P_clocks_for_all) := ⟨_, _, ok_Session_aside F_Session_aside T h_counted h_kind_of h_Session_has h_Session_others len_Session_aside (pure_Session_aside T), ⟨a_Session_aside, i_Session_aside, kk_Session_aside⟩, b_Session_aside⟩
  have h_change : Df PySem.Challenge.rw_lightevents_s01_answers.prog w K mg base "change" 3 ["session", "number", "given"] (sp_change K C_Session a_GIVEN_COUNTS P_row_lengths P_most_apart P_clocks_for_all) := ⟨_, _, ok_change F_change T h_Session_put h_Session_drop h_Session_move h_Session_turn len_change (pure_change T), PySem.W.mg_of X G a_change, kk_change, b_change⟩
  have h_row_lengths : Df PySem.Challenge.rw_lightevents_s01_answers.prog w K mg base "row_lengths" 4 ["points"] (sp_row_lengths K C_Session a_GIVEN_COUNTS P_row_lengths P_most_apart P_clocks_for_all) := ⟨_, _, ok_row_lengths F_row_lengths T (TBs (c_row_lengths, P_row_lengths) (List.mem_cons_self ..)) rfl h_may_go_on len_row_lengths (pure_row_lengths T), PySem.W.mg_of X G a_row_lengths, kk_row_lengths, b_row_lengths⟩
  have h_most_apart : Df PySem.Challenge.rw_lightevents_s01_answers.prog w K mg base "most_apart" 4 ["points"] (sp_most_apart K C_Session a_GIVEN_COUNTS P_row_lengths P_most_apart P_clocks_for_all) := ⟨_, _, ok_most_apart F_most_apart T (TBs (c_most_apart, P_most_apart) (List.mem_cons_of_mem _ (List.mem_cons_self ..))) rfl h_is_apart_below len_most_apart (pure_most_apart T), PySem.W.mg_of X G a_most_apart, kk_most_apart, b_most_apart⟩
  have h_Session_first : Mt PySem.Challenge.rw_lightevents_s01_answers.prog w K mg base C_Session "first" 4 ["self", "i", "j"] (sp_Session_first K C_Session a_GIVEN_COUNTS P_row_lengths P_most_apart P_clocks_for_all) := ⟨_, _, ok_Session_first F_Session_first T h_first_of h_Session_has len_Session_first (pure_Session_first T), ⟨a_Session_first, i_Session_first, kk_Session_first⟩, b_Session_first⟩
  have h_Session_last : Mt PySem.Challenge.rw_lightevents_s01_answers.prog w K mg base C_Session "last" 4 ["self", "i", "j"] (sp_Session_last K C_Session a_GIVEN_COUNTS P_row_lengths P_most_apart P_clocks_for_all) := ⟨_, _, ok_Session_last F_Session_last T h_last_of h_Session_has len_Session_last (pure_Session_last T), ⟨a_Session_last, i_Session_last, kk_Session_last⟩, b_Session_last⟩
  have h_tell_heard : Df PySem.Challenge.rw_lightevents_s01_answers.prog w K mg base "tell_heard" 4 ["session", "number", "given"] (sp_tell_heard K C_Session a_GIVEN_COUNTS P_row_lengths P_most_apart P_clocks_for_all) := ⟨_, _, ok_tell_heard F_tell_heard T h_Session_heard h_Session_kind h_Session_square h_Session_past h_Session_future h_Session_between h_Session_aside len_tell_heard (pure_tell_heard T), PySem.W.mg_of X G a_tell_heard, kk_tell_heard, b_tell_heard⟩
  have h_longest_row : Df PySem.Challenge.rw_lightevents_s01_answers.prog w K mg base "longest_row" 5 ["points"] (sp_longest_row K C_Session a_GIVEN_COUNTS P_row_lengths P_most_apart P_clocks_for_all) := ⟨_, _, ok_longest_row F_longest_row T h_row_lengths len_longest_row (pure_longest_row T), PySem.W.mg_of X G a_longest_row, kk_longest_row, b_longest_row⟩
  have h_clock_of : Df PySem.Challenge.rw_lightevents_s01_answers.prog w K mg base "clock_of" 5 ["points"] (sp_clock_of K C_Session a_GIVEN_COUNTS P_row_lengths P_most_apart P_clocks_for_all) := ⟨_, _, ok_clock_of F_clock_of T h_row_lengths h_may_go_on len_clock_of (pure_clock_of T), PySem.W.mg_of X G a_clock_of, kk_clock_of, b_clock_of⟩
  have h_clocks_for_all : Df PySem.Challenge.rw_lightevents_s01_answers.prog w K mg base "clocks_for_all" 5 ["points"] (sp_clocks_for_all K C_Session a_GIVEN_COUNTS P_row_lengths P_most_apart P_clocks_for_all) := ⟨_, _, ok_clocks_for_all F_clocks_for_all T (TBs (c_clocks_for_all, P_clocks_for_all) (List.mem_cons_of_mem _ (List.mem_cons_of_mem _ (List.mem_cons_self ..)))) rfl h_time_and_place h_time_less_place h_clock_to_take len_clocks_for_all (pure_clocks_for_all T), PySem.W.mg_of X G a_clocks_for_all, kk_clocks_for_all, b_clocks_for_all⟩
  have h_Session_long : Mt PySem.Challenge.rw_lightevents_s01_answers.prog w K mg base C_Session "long" 5 ["self", "i"] (sp_Session_long K C_Session a_GIVEN_COUNTS P_row_lengths P_most_apart P_clocks_for_all) := ⟨_, _, ok_Session_long F_Session_long T h_row_lengths h_Session_has len_Session_long (pure_Session_long T), ⟨a_Session_long, i_Session_long, kk_Session_long⟩, b_Session_long⟩
  have h_Session_most : Mt PySem.Challenge.rw_lightevents_s01_answers.prog w K mg base C_Session "most" 5 ["self"] (sp_Session_most K C_Session a_GIVEN_COUNTS P_row_lengths P_most_apart P_clocks_for_all) := ⟨_, _, ok_Session_most F_Session_most T h_most_apart len_Session_most (pure_Session_most T), ⟨a_Session_most, i_Session_most, kk_Session_most⟩, b_Session_most⟩
  have h_tell_light : Df PySem.Challenge.rw_lightevents_s01_answers.prog w K mg base "tell_light" 5 ["session", "number", "given"] (sp_tell_light K C_Session a_GIVEN_COUNTS P_row_lengths P_most_apart P_clocks_for_all) := ⟨_, _, ok_tell_light F_tell_light T h_Session_first h_Session_last h_Session_reach h_Session_by len_tell_light (pure_tell_light T), PySem.W.mg_of X G a_tell_light, kk_tell_light, b_tell_light⟩
  have h_Session_longest : Mt PySem.Challenge.rw_lightevents_s01_answers.prog w K mg base C_Session "longest" 6 ["self"] (sp_Session_longest K C_Session a_GIVEN_COUNTS P_row_lengths P_most_apart P_clocks_for_all) := ⟨_, _, ok_Session_longest F_Session_longest T h_longest_row len_Session_longest (pure_Session_longest T), ⟨a_Session_longest, i_Session_longest, kk_Session_longest⟩, b_Session_longest⟩
  have h_Session_clock : Mt PySem.Challenge.rw_lightevents_s01_answers.prog w K mg base C_Session "clock" 6 ["self"] (sp_Session_clock K C_Session a_GIVEN_COUNTS P_row_lengths P_most_apart P_clocks_for_all) := ⟨_, _, ok_Session_clock F_Session_clock T h_counted h_clock_of len_Session_clock (pure_Session_clock T), ⟨a_Session_clock, i_Session_clock, kk_Session_clock⟩, b_Session_clock⟩
  have h_Session_clocks : Mt PySem.Challenge.rw_lightevents_s01_answers.prog w K mg base C_Session "clocks" 6 ["self"] (sp_Session_clocks K C_Session a_GIVEN_COUNTS P_row_lengths P_most_apart P_clocks_for_all) := ⟨_, _, ok_Session_clocks F_Session_clocks T h_clocks_for_all h_counted len_Session_clocks (pure_Session_clocks T), ⟨a_Session_clocks, i_Session_clocks, kk_Session_clocks⟩, b_Session_clocks⟩
  have h_tell_rows : Df PySem.Challenge.rw_lightevents_s01_answers.prog w K mg base "tell_rows" 7 ["session", "number", "given"] (sp_tell_rows K C_Session a_GIVEN_COUNTS P_row_lengths P_most_apart P_clocks_for_all) := ⟨_, _, ok_tell_rows F_tell_rows T h_Session_long h_Session_longest h_Session_clock h_Session_most h_Session_clocks len_tell_rows (pure_tell_rows T), PySem.W.mg_of X G a_tell_rows, kk_tell_rows, b_tell_rows⟩
  have h_answer : Df PySem.Challenge.rw_lightevents_s01_answers.prog w K mg base "answer" 8 ["session", "number", "given"] (sp_answer K C_Session a_GIVEN_COUNTS P_row_lengths P_most_apart P_clocks_for_all) := ⟨_, _, ok_answer F_answer T h_change h_tell_heard h_tell_light h_tell_rows h_Session_begin h_Session_events h_Session_back h_Session_state len_answer (pure_answer T), PySem.W.mg_of X G a_answer, kk_answer, b_answer⟩
  exact ok_answers F_answers T h_counted h_answer h_Session_init len_answers (pure_answers T)
end Lw
open PySem PySem.W PyProof.Rows
theorem PySem.Challenge.cw_lightevents_s01_answers_holds : PySem.Challenge.rw_lightevents_s01_answers.Holds := by
  w_on; k_headS; (case hw => exact ⟨[.list [.int 0]], by decide +kernel, by decide +kernel⟩)
  k_fillS
  refine Lk.walk_specT (r := PySem.Challenge.rw_lightevents_s01_answers) (k := 9) (CX := L2.CX0) (ps := ["calls"]) (by decide +kernel) rfl rfl ⟨rfl, by decide, by decide⟩ (fun w h Y => PySem.W.kIn_of Y) ?F (fun _ _ _ _ z => z)
  case F =>
    intro w mg fa h Y KX G hmg tab
    refine' Lw.all_mk KX G hmg tab ?g_SAME ?g_HEARD_BY_LIGHT ?g_HEARD_SLOWER ?g_NEITHER ?g_HEARS_BY_LIGHT ?g_HEARS_SLOWER ?g_MOST_EVENTS ?g_MOST_BACK ?g_FARTHEST ?g_NO_EVENT ?g_NO_CHANGE ?g_OUT_OF_RANGE ?g_TOO_MANY ?g_THERE_IS_NONE ?g_BEGIN ?g_PUT ?g_DROP ?g_MOVE ?g_TURN ?g_EVENTS ?g_HEARD ?g_KIND ?g_SQUARE ?g_PAST ?g_FUTURE ?g_BETWEEN ?g_ASIDE ?g_FIRST ?g_LAST ?g_REACH ?g_BY ?g_LONG ?g_LONGEST ?g_CLOCK ?g_MOST ?g_CLOCKS ?g_BACK ?g_GIVEN_COUNTS ?l_GIVEN_COUNTS ?d_GIVEN_COUNTS ?g_NOT_BEGUN ?n_abs ?n_enumerate ?n_len ?n_max ?n_min ?n_range ?n_sorted ?c_Session ?pg_Session ?hd_Session ?po_Session ?sa_Session ?mk_Session ?kc_Session ?f_Session_begun ?f_Session_points ?f_Session_earlier ?a_is_heard ?l_is_heard ?cc_is_heard ?kk_is_heard ?a_is_apart_below ?l_is_apart_below ?cc_is_apart_below ?kk_is_apart_below ?a_square_of ?l_square_of ?cc_square_of ?kk_square_of ?a_kind_of ?l_kind_of ?cc_kind_of ?kk_kind_of ?a_time_less_place ?l_time_less_place ?cc_time_less_place ?kk_time_less_place ?a_time_and_place ?l_time_and_place ?cc_time_and_place ?kk_time_and_place ?a_halves ?l_halves ?cc_halves ?kk_halves ?a_crossing ?l_crossing ?cc_crossing ?kk_crossing ?a_first_of ?l_first_of ?cc_first_of ?kk_first_of ?a_last_of ?l_last_of ?cc_last_of ?kk_last_of ?a_may_go_on ?l_may_go_on ?cc_may_go_on ?kk_may_go_on ?a_row_lengths ?l_row_lengths ?cc_row_lengths ?lc_row_lengths ?v_row_lengths ?np_row_lengths ?rec_row_lengths ?kk_row_lengths ?a_longest_row ?l_longest_row ?cc_longest_row ?kk_longest_row ?a_clock_of ?l_clock_of ?cc_clock_of ?kk_clock_of ?a_most_apart ?l_most_apart ?cc_most_apart ?lc_most_apart ?v_most_apart ?np_most_apart ?rec_most_apart ?kk_most_apart ?a_clock_to_take ?l_clock_to_take ?cc_clock_to_take ?kk_clock_to_take ?a_clocks_for_all ?l_clocks_for_all ?cc_clocks_for_all ?lc_clocks_for_all ?v_clocks_for_all ?np_clocks_for_all ?rec_clocks_for_all ?kk_clocks_for_all ?a_in_range ?l_in_range ?cc_in_range ?kk_in_range ?a_counted ?l_counted ?cc_counted ?kk_counted ?a_Session_init ?i_Session_init ?l_Session_init ?cc_Session_init ?kk_Session_init ?a_Session_has ?i_Session_has ?l_Session_has ?cc_Session_has ?kk_Session_has ?a_Session_others ?i_Session_others ?l_Session_others ?cc_Session_others ?kk_Session_others ?a_Session_become ?i_Session_become ?l_Session_become ?cc_Session_become ?kk_Session_become ?a_Session_begin ?i_Session_begin ?l_Session_begin ?cc_Session_begin ?kk_Session_begin ?a_Session_back ?i_Session_back ?l_Session_back ?cc_Session_back ?kk_Session_back ?a_Session_state ?i_Session_state ?l_Session_state ?cc_Session_state ?kk_Session_state ?a_Session_put ?i_Session_put ?l_Session_put ?cc_Session_put ?kk_Session_put ?a_Session_drop ?i_Session_drop ?l_Session_drop ?cc_Session_drop ?kk_Session_drop ?a_Session_move ?i_Session_move ?l_Session_move ?cc_Session_move ?kk_Session_move ?a_Session_turn ?i_Session_turn ?l_Session_turn ?cc_Session_turn ?kk_Session_turn ?a_Session_events ?i_Session_events ?l_Session_events ?cc_Session_events ?kk_Session_events ?a_Session_heard ?i_Session_heard ?l_Session_heard ?cc_Session_heard ?kk_Session_heard ?a_Session_kind ?i_Session_kind ?l_Session_kind ?cc_Session_kind ?kk_Session_kind ?a_Session_square ?i_Session_square ?l_Session_square ?cc_Session_square ?kk_Session_square ?a_Session_past ?i_Session_past ?l_Session_past ?cc_Session_past ?kk_Session_past ?a_Session_future ?i_Session_future ?l_Session_future ?cc_Session_future ?kk_Session_future ?a_Session_between ?i_Session_between ?l_Session_between ?cc_Session_between ?kk_Session_between ?a_Session_aside ?i_Session_aside ?l_Session_aside ?cc_Session_aside ?kk_Session_aside ?a_Session_first ?i_Session_first ?l_Session_first ?cc_Session_first ?kk_Session_first ?a_Session_last ?i_Session_last ?l_Session_last ?cc_Session_last ?kk_Session_last ?a_Session_reach ?i_Session_reach ?l_Session_reach ?cc_Session_reach ?kk_Session_reach ?a_Session_by ?i_Session_by ?l_Session_by ?cc_Session_by ?kk_Session_by ?a_Session_long ?i_Session_long ?l_Session_long ?cc_Session_long ?kk_Session_long ?a_Session_longest ?i_Session_longest ?l_Session_longest ?cc_Session_longest ?kk_Session_longest ?a_Session_clock ?i_Session_clock ?l_Session_clock ?cc_Session_clock ?kk_Session_clock ?a_Session_most ?i_Session_most ?l_Session_most ?cc_Session_most ?kk_Session_most ?a_Session_clocks ?i_Session_clocks ?l_Session_clocks ?cc_Session_clocks ?kk_Session_clocks ?a_change ?l_change ?cc_change ?kk_change ?a_tell_heard ?l_tell_heard ?cc_tell_heard ?kk_tell_heard ?a_tell_light ?l_tell_light ?cc_tell_light ?kk_tell_light ?a_tell_rows ?l_tell_rows ?cc_tell_rows ?kk_tell_rows ?a_answer ?l_answer ?cc_answer ?kk_answer ?a_answers ?l_answers ?cc_answers ?kk_answers ?nd_P
    (case g_SAME => k_is)
    (case g_HEARD_BY_LIGHT => k_is)
    (case g_HEARD_SLOWER => k_is)
    (case g_NEITHER => k_is)
    (case g_HEARS_BY_LIGHT => k_is)
    (case g_HEARS_SLOWER => k_is)
    (case g_MOST_EVENTS => k_is)
    (case g_MOST_BACK => k_is)
    (case g_FARTHEST => k_is)
    (case g_NO_EVENT => k_is)
    (case g_NO_CHANGE => k_is)
    (case g_OUT_OF_RANGE => k_is)
    (case g_TOO_MANY => k_is)
    (case g_THERE_IS_NONE => k_is)
    (case g_BEGIN => k_is)
    (case g_PUT => k_is)
    (case g_DROP => k_is)
    (case g_MOVE => k_is)
    (case g_TURN => k_is)
    (case g_EVENTS => k_is)
    (case g_HEARD => k_is)
    (case g_KIND => k_is)
    (case g_SQUARE => k_is)
    (case g_PAST => k_is)
    (case g_FUTURE => k_is)
    (case g_BETWEEN => k_is)
    (case g_ASIDE => k_is)
    (case g_FIRST => k_is)
    (case g_LAST => k_is)
    (case g_REACH => k_is)
    (case g_BY => k_is)
    (case g_LONG => k_is)
    (case g_LONGEST => k_is)
    (case g_CLOCK => k_is)
    (case g_MOST => k_is)
    (case g_CLOCKS => k_is)
    (case g_BACK => k_is)
    (case g_GIVEN_COUNTS => k_is)
    (case l_GIVEN_COUNTS => k_is)
    (case d_GIVEN_COUNTS => first | exact ⟨rfl, rfl⟩ | (constructor <;> k_is))
    (case g_NOT_BEGUN => k_is)
    (case n_abs => k_is)
    (case n_enumerate => k_is)
    (case n_len => k_is)
    (case n_max => k_is)
    (case n_min => k_is)
    (case n_range => k_is)
    (case n_sorted => k_is)
    (case c_Session => k_is)
    (case pg_Session => k_is)
    (case hd_Session => k_is)
    (case po_Session => k_is)
    (case sa_Session => k_is)
    (case mk_Session => k_is)
    (case kc_Session => k_is)
    (case f_Session_begun => k_is)
    (case f_Session_points => k_is)
    (case f_Session_earlier => k_is)
    (case a_is_heard => k_is)
    (case l_is_heard => k_is)
    (case cc_is_heard => k_is)
    (case kk_is_heard => k_is)
    (case a_is_apart_below => k_is)
    (case l_is_apart_below => k_is)
    (case cc_is_apart_below => k_is)
    (case kk_is_apart_below => k_is)
    (case a_square_of => k_is)
    (case l_square_of => k_is)
    (case cc_square_of => k_is)
    (case kk_square_of => k_is)
    (case a_kind_of => k_is)
    (case l_kind_of => k_is)
    (case cc_kind_of => k_is)
    (case kk_kind_of => k_is)
    (case a_time_less_place => k_is)
    (case l_time_less_place => k_is)
    (case cc_time_less_place => k_is)
    (case kk_time_less_place => k_is)
    (case a_time_and_place => k_is)
    (case l_time_and_place => k_is)
    (case cc_time_and_place => k_is)
    (case kk_time_and_place => k_is)
    (case a_halves => k_is)
    (case l_halves => k_is)
    (case cc_halves => k_is)
    (case kk_halves => k_is)
    (case a_crossing => k_is)
    (case l_crossing => k_is)
    (case cc_crossing => k_is)
    (case kk_crossing => k_is)
    (case a_first_of => k_is)
    (case l_first_of => k_is)
    (case cc_first_of => k_is)
    (case kk_first_of => k_is)
    (case a_last_of => k_is)
    (case l_last_of => k_is)
    (case cc_last_of => k_is)
    (case kk_last_of => k_is)
    (case a_may_go_on => k_is)
    (case l_may_go_on => k_is)
    (case cc_may_go_on => k_is)
    (case kk_may_go_on => k_is)
    (case a_row_lengths => k_is)
    (case l_row_lengths => k_is)
    (case cc_row_lengths => k_is)
    (case lc_row_lengths => k_is)
    (case v_row_lengths => exact rfl)
    (case np_row_lengths => first | kernel_rfl | rfl | decide +kernel)
    (case rec_row_lengths => first | rfl | kernel_rfl)
    (case kk_row_lengths => k_is)
    (case a_longest_row => k_is)
    (case l_longest_row => k_is)
    (case cc_longest_row => k_is)
    (case kk_longest_row => k_is)
    (case a_clock_of => k_is)
    (case l_clock_of => k_is)
    (case cc_clock_of => k_is)
    (case kk_clock_of => k_is)
    (case a_most_apart => k_is)
    (case l_most_apart => k_is)
    (case cc_most_apart => k_is)
    (case lc_most_apart => k_is)
    (case v_most_apart => exact rfl)
    (case np_most_apart => first | kernel_rfl | rfl | decide +kernel)
    (case rec_most_apart => first | rfl | kernel_rfl)
    (case kk_most_apart => k_is)
    (case a_clock_to_take => k_is)
    (case l_clock_to_take => k_is)
    (case cc_clock_to_take => k_is)
    (case kk_clock_to_take => k_is)
    (case a_clocks_for_all => k_is)
    (case l_clocks_for_all => k_is)
    (case cc_clocks_for_all => k_is)
    (case lc_clocks_for_all => k_is)
    (case v_clocks_for_all => exact rfl)
    (case np_clocks_for_all => first | kernel_rfl | rfl | decide +kernel)
    (case rec_clocks_for_all => first | rfl | kernel_rfl)
    (case kk_clocks_for_all => k_is)
    (case a_in_range => k_is)
    (case l_in_range => k_is)
    (case cc_in_range => k_is)
    (case kk_in_range => k_is)
    (case a_counted => k_is)
    (case l_counted => k_is)
    (case cc_counted => k_is)
    (case kk_counted => k_is)
    (case a_Session_init => k_is)
    (case i_Session_init => k_is)
    (case l_Session_init => k_is)
    (case cc_Session_init => k_is)
    (case kk_Session_init => k_is)
    (case a_Session_has => k_is)
    (case i_Session_has => k_is)
    (case l_Session_has => k_is)
    (case cc_Session_has => k_is)
    (case kk_Session_has => k_is)
    (case a_Session_others => k_is)
    (case i_Session_others => k_is)
    (case l_Session_others => k_is)
    (case cc_Session_others => k_is)
    (case kk_Session_others => k_is)
    (case a_Session_become => k_is)
    (case i_Session_become => k_is)
    (case l_Session_become => k_is)
    (case cc_Session_become => k_is)
    (case kk_Session_become => k_is)
    (case a_Session_begin => k_is)
    (case i_Session_begin => k_is)
    (case l_Session_begin => k_is)
    (case cc_Session_begin => k_is)
    (case kk_Session_begin => k_is)
    (case a_Session_back => k_is)
    (case i_Session_back => k_is)
    (case l_Session_back => k_is)
    (case cc_Session_back => k_is)
    (case kk_Session_back => k_is)
    (case a_Session_state => k_is)
    (case i_Session_state => k_is)
    (case l_Session_state => k_is)
    (case cc_Session_state => k_is)
    (case kk_Session_state => k_is)
    (case a_Session_put => k_is)
    (case i_Session_put => k_is)
    (case l_Session_put => k_is)
    (case cc_Session_put => k_is)
    (case kk_Session_put => k_is)
    (case a_Session_drop => k_is)
    (case i_Session_drop => k_is)
    (case l_Session_drop => k_is)
    (case cc_Session_drop => k_is)
    (case kk_Session_drop => k_is)
    (case a_Session_move => k_is)
    (case i_Session_move => k_is)
    (case l_Session_move => k_is)
    (case cc_Session_move => k_is)
    (case kk_Session_move => k_is)
    (case a_Session_turn => k_is)
    (case i_Session_turn => k_is)
    (case l_Session_turn => k_is)
    (case cc_Session_turn => k_is)
    (case kk_Session_turn => k_is)
    (case a_Session_events => k_is)
    (case i_Session_events => k_is)
    (case l_Session_events => k_is)
    (case cc_Session_events => k_is)
    (case kk_Session_events => k_is)
    (case a_Session_heard => k_is)
    (case i_Session_heard => k_is)
    (case l_Session_heard => k_is)
    (case cc_Session_heard => k_is)
    (case kk_Session_heard => k_is)
    (case a_Session_kind => k_is)
    (case i_Session_kind => k_is)
    (case l_Session_kind => k_is)
    (case cc_Session_kind => k_is)
    (case kk_Session_kind => k_is)
    (case a_Session_square => k_is)
    (case i_Session_square => k_is)
    (case l_Session_square => k_is)
    (case cc_Session_square => k_is)
    (case kk_Session_square => k_is)
    (case a_Session_past => k_is)
    (case i_Session_past => k_is)
    (case l_Session_past => k_is)
    (case cc_Session_past => k_is)
    (case kk_Session_past => k_is)
    (case a_Session_future => k_is)
    (case i_Session_future => k_is)
    (case l_Session_future => k_is)
    (case cc_Session_future => k_is)
    (case kk_Session_future => k_is)
    (case a_Session_between => k_is)
    (case i_Session_between => k_is)
    (case l_Session_between => k_is)
    (case cc_Session_between => k_is)
    (case kk_Session_between => k_is)
    (case a_Session_aside => k_is)
    (case i_Session_aside => k_is)
    (case l_Session_aside => k_is)
    (case cc_Session_aside => k_is)
    (case kk_Session_aside => k_is)
    (case a_Session_first => k_is)
    (case i_Session_first => k_is)
    (case l_Session_first => k_is)
    (case cc_Session_first => k_is)
    (case kk_Session_first => k_is)
    (case a_Session_last => k_is)
    (case i_Session_last => k_is)
    (case l_Session_last => k_is)
    (case cc_Session_last => k_is)
    (case kk_Session_last => k_is)
    (case a_Session_reach => k_is)
    (case i_Session_reach => k_is)
    (case l_Session_reach => k_is)
    (case cc_Session_reach => k_is)
    (case kk_Session_reach => k_is)
    (case a_Session_by => k_is)
    (case i_Session_by => k_is)
    (case l_Session_by => k_is)
    (case cc_Session_by => k_is)
    (case kk_Session_by => k_is)
    (case a_Session_long => k_is)
    (case i_Session_long => k_is)
    (case l_Session_long => k_is)
    (case cc_Session_long => k_is)
    (case kk_Session_long => k_is)
    (case a_Session_longest => k_is)
    (case i_Session_longest => k_is)
    (case l_Session_longest => k_is)
    (case cc_Session_longest => k_is)
    (case kk_Session_longest => k_is)
    (case a_Session_clock => k_is)
    (case i_Session_clock => k_is)
    (case l_Session_clock => k_is)
    (case cc_Session_clock => k_is)
    (case kk_Session_clock => k_is)
    (case a_Session_most => k_is)
    (case i_Session_most => k_is)
    (case l_Session_most => k_is)
    (case cc_Session_most => k_is)
    (case kk_Session_most => k_is)
    (case a_Session_clocks => k_is)
    (case i_Session_clocks => k_is)
    (case l_Session_clocks => k_is)
    (case cc_Session_clocks => k_is)
    (case kk_Session_clocks => k_is)
    (case a_change => k_is)
    (case l_change => k_is)
    (case cc_change => k_is)
    (case kk_change => k_is)
    (case a_tell_heard => k_is)
    (case l_tell_heard => k_is)
    (case cc_tell_heard => k_is)
    (case kk_tell_heard => k_is)
    (case a_tell_light => k_is)
    (case l_tell_light => k_is)
    (case cc_tell_light => k_is)
    (case kk_tell_light => k_is)
    (case a_tell_rows => k_is)
    (case l_tell_rows => k_is)
    (case cc_tell_rows => k_is)
    (case kk_tell_rows => k_is)
    (case a_answer => k_is)
    (case l_answer => k_is)
    (case cc_answer => k_is)
    (case kk_answer => k_is)
    (case a_answers => k_is)
    (case l_answers => k_is)
    (case cc_answers => k_is)
    (case kk_answers => k_is)
    (case nd_P => decide)

