import PyProof.Rows.All
import Wide.All
import OpenK.AllK
import Wide.FinOn
import HandS.ForMost
import HandS.SetTxt0
import HandS.Set
import HandS.Strs
import HandS.SetBool
import PyProof.Rows.SortShellAny
import KE.KSortKeySt
import HandS.RaiseMore
import HandS.SortKw
import KE.GoesComp
import HandS.Exc
import KE.GoesRaise
import HandS.Evl
import HandS.Text
import HandS.ExcInit
import HandS.ExcField
import HandS.ExcIs
import HandS.IsInst
import KE.KExcIs
import HandS.GenList
import HandS.GenYield
import HandS.Star
import HandS.MakeKw
import HandS.MakeKwOnly
import HandS.Property
import HandS.ClsMeth
import HandS.IterVal
import HandS.SetKeys
import HandS.DictComp
import HandS.Rev
import HandS.ForSpec
import HandS.SortInts
import HandS.Steps
import HandS.Wide
import HandS.Deep
import HandS.NoneIn
import HandS.Style
import HandS.Conv
import HandS.Iter
import HandS.Defaults
import KE.KStateDown
import HandS.Head0
import HandS.Head1
import HandS.Head2
import HandS.HeadHook1
import HandS.HeadHook2
import PySem.Challenge.RW_unseendials_k86_pairs_make_roundings
set_option Elab.async false
/-! TS -/
set_option linter.all false
set_option maxRecDepth 100000
set_option maxHeartbeats 4000000
noncomputable section
namespace TS
open PySem PySem.Spec PyProof.Rows L2 PySem.Froz

/-- a table that can be walked -/
structure WalkT (w : World) (t : SetTable) : Prop where
  ris : Ris t.place.toList
  led : w.params.followText "set-order" = true ∨ t.led = true

theorem walk_off {w : World} {t : SetTable} (g : WalkT w t) : WalkT w (if t.plain = true then { t with plain := false } else t) := by
  by_cases c : t.plain = true
  · rw [if_pos c]; exact ⟨g.ris, g.led⟩
  · rw [if_neg c]; exact g

theorem walk_tail {w : World} {ep : Nat} {es : Array (Int × Value)} {t : SetTable} {d : Bool} (g : WalkT w t) : WalkT w (tailTx ep es t d).2.2 := by
  unfold tailTx
  by_cases c : (!d && t.tooFull) = true
  · rw [if_pos c]
    refine ⟨relayAll_ris t es _, g.led.imp id fun z => ?_⟩
    show (relayAll t es _).2.1.led = true
    rw [relayAll_led]; exact z
  · rw [if_neg c]; exact g

theorem walk_add {w : World} {D : SD} (h : Int) (v : Value) (g : WalkT w D.2.2) : WalkT w (addTx h v D).2.2 := by
  unfold addTx
  refine walk_tail (walk_off ⟨layNew_ris D.2.2 D.1 h v g.ris, g.led.imp id fun z => ?_⟩)
  rw [layNew_led]; exact z

/-- the set of texts at a; l: its members, each once -/
def SetS (P : Program) (w : World) (a : Addr) (l : List PySem.Str) : HO := .ext fun h => ∃ D : SD, h.get? a = some (sObj "set" D) ∧ TxOk P w D l ∧ WalkT w D.2.2

theorem setS_new {P : Program} {w : World} {H : Hp} {h : Heap} {a : Addr} {l : List PySem.Str} {D : SD} (e : h.get? a = some (sObj "set" D)) (F : TxOk P w D l) (g : WalkT w D.2.2) : ObjOk P w H h a (SetS P w a l) :=
  ⟨⟨D, e, F, g⟩, ⟨_, e⟩, fun _ _ ⟨D', e', F', g'⟩ k => ⟨D', k _ e', F', g'⟩⟩

section
variable {X : Cx} {pins : List (Addr × Obj)} {σ : L2.St} {H : Hp} {s : Shared} {A : Around} {E : Value → Shared → Prop} {P : Program} {w : World}

theorem setS_get {a : Addr} {l : List PySem.Str} (I : Inv X pins σ H s) (ha : H a = some (SetS X.prog X.w a l)) : ∃ D : SD, s.heap.get? a = some (sObj "set" D) ∧ TxOk X.prog X.w D l ∧ WalkT X.w D.2.2 := (I.hok a _ ha).1

/-- a text that is in already -/
theorem add_in {a : Addr} {T : String} {D : SD} {l : List PySem.Str} {k : PySem.Str} {u : Tok} {Q : Bool → Shared → Prop} (ho : s.heap.get? a = some (sObj T D)) (F : TxOk P w D l) (hk : k ∈ l) (hb : l.length < scanBound)
    (h : Q false s) : wpAny (model P w) A (setAddHashed a (.str k u) (hashStr w k)) Q E s := by
  obtain ⟨es, ep, t⟩ := D
  have dat : (sObj T (es, ep, t)).data = .set es ep t := rfl
  have fit : t.fits es.size = true := F.fit
  have els : ElemsOf (strKind P w) es.toList := F.el
  have size : es.size < scanBound := by have z : es.size = l.length := F.sz; omega
  have isk : (strKind P w).is k (.str k u) = true := is_str k u
  obtain ⟨e, he, q⟩ := (F.mem k).mp hk
  unfold setAddHashed setAddHashedIn
  refine wpAny_holding (wpAny_bind (wpAny_setState_of ho dat fit ?_))
  dsimp only
  rw [byScan_of rfl size els]
  simp only [↓reduceIte]
  unfold setAddByScan
  refine wpAny_bind (wpAny_bind (wpAny_rule (wpAny_bind (wpAny_setScan_of (knd := strKind P w) (k := k) isk ho dat fit els ?_))))
  cases hr : List.findIdx? (fun e => (strKind P w).is k e.2) es.toList with
  | none =>
    have c := List.findIdx?_eq_none_iff.mp hr e he
    rw [q] at c; cases c
  | some j =>
    dsimp only
    exact wpAny_pure (wpAny_pure h)

theorem upd_back {h : Heap} {a b : Addr} {o : Obj} (hb : b ≠ a) : (h.update a (fun _ => o)).get? b = h.get? b := Heap.get?_update_other _ _ (Ne.symm hb)

/-- s.add(k) as the model does it behind the hash -/
theorem addS {a : Addr} {l : List PySem.Str} {k : PySem.Str} {u : Tok} {Q : Bool → Shared → Prop} (I : Inv X pins σ H s) (ha : H a = some (SetS X.prog X.w a l)) (hb : l.length + 1 < scanBound)
    (h : ∀ b s', Inv X pins σ (upd H a (SetS X.prog X.w a (if k ∈ l then l else k :: l))) s' → Q b s') : wpAny (model X.prog X.w) A (setAddHashed a (.str k u) (hashStr X.w k)) Q E s := by
  obtain ⟨D, hD, F, g⟩ := setS_get I ha
  by_cases hk : k ∈ l
  · refine add_in hD F hk (by omega) (h _ _ ?_)
    rw [if_pos hk]
    have e : upd H a (SetS X.prog X.w a l) = H := by
      funext b
      by_cases hb : b = a
      · rw [hb, upd_same, ha]
      · rw [upd_ne hb]
    rw [e]; exact I
  · refine add_x hD F hk hb (h _ _ ?_)
    rw [if_neg hk]
    refine I.write (e := a) (t' := s.toks) (by rw [ha]; exact True.intro) (.inl rfl) (fun b o hb e => (upd_back hb).trans e) ⟨_, get_upd _ hD rfl⟩ (setS_new (get_upd _ hD rfl) (add_ok u F) (walk_add _ _ g))
end

end TS
end
/-! TS2 -/
set_option linter.all false
set_option maxRecDepth 100000
set_option maxHeartbeats 4000000
noncomputable section
namespace TS
open PySem PySem.Spec PyProof.Rows L2 PySem.Froz

/-- all texts put into a set, one after another -/
def intoSet (l : List PySem.Str) (xs : List PySem.Str) : List PySem.Str := xs.foldl (fun l k => if k ∈ l then l else k :: l) l
theorem intoSet_mem : ∀ (xs l : List PySem.Str) (k : PySem.Str), k ∈ intoSet l xs ↔ k ∈ l ∨ k ∈ xs
  | [], l, k => by simp [intoSet]
  | x :: xs, l, k => by
    show k ∈ intoSet (if x ∈ l then l else x :: l) xs ↔ _
    rw [intoSet_mem xs]
    by_cases h : x ∈ l
    · rw [if_pos h]
      constructor
      · rintro (z | z)
        · exact .inl z
        · exact .inr (List.mem_cons_of_mem _ z)
      · rintro (z | z)
        · exact .inl z
        · rcases List.mem_cons.mp z with e | z
          · rw [e]; exact .inl h
          · exact .inr z
    · rw [if_neg h]
      simp only [List.mem_cons]
      constructor
      · rintro ((z | z) | z)
        · exact .inr (.inl z)
        · exact .inl z
        · exact .inr (.inr z)
      · rintro (z | z | z)
        · exact .inl (.inr z)
        · exact .inl (.inl z)
        · exact .inr z
theorem intoSet_nodup : ∀ (xs l : List PySem.Str), l.Nodup → (intoSet l xs).Nodup
  | [], l, d => d
  | x :: xs, l, d => by
    show (intoSet (if x ∈ l then l else x :: l) xs).Nodup
    refine intoSet_nodup xs _ ?_
    by_cases h : x ∈ l
    · rw [if_pos h]; exact d
    · rw [if_neg h]; exact List.nodup_cons.mpr ⟨h, d⟩
theorem intoSet_len : ∀ (xs l : List PySem.Str), (intoSet l xs).length ≤ l.length + xs.length
  | [], l => Nat.le_refl _
  | x :: xs, l => by
    have h := intoSet_len xs (if x ∈ l then l else x :: l)
    have e : (if x ∈ l then l else x :: l).length ≤ l.length + 1 := by
      split
      · omega
      · simp
    show (intoSet (if x ∈ l then l else x :: l) xs).length ≤ l.length + (xs.length + 1)
    omega
theorem intoSet_snoc (l xs : List PySem.Str) (k : PySem.Str) : intoSet l (xs ++ [k]) = (if k ∈ intoSet l xs then intoSet l xs else k :: intoSet l xs) := by
  unfold intoSet
  rw [List.foldl_append] <;> rfl

/-- x, whatever it is, hands out the texts xs -/
structure Texts (P : Program) (w : World) (s : Shared) (x : Value) (xs : List PySem.Str) : Prop where
  ex : ∃ T : String, (∀ s' : Shared, (∀ b o, s.heap.get? b = some o → s'.heap.get? b = some o) → s'.TypeIs x T) ∧ isSubtype (.type T) (.type "set") = pure false ∧ isSubtype (.type T) (.type "frozenset") = pure false ∧ (Value.type T == Value.type "dict") = false
  it : ∀ (s1 : Shared) (A : Around) (E : Value → Shared → Prop) (Q : Value → Shared → Prop), (∀ b o, s.heap.get? b = some o → s1.heap.get? b = some o) →
    (∀ (o : Obj) (fp : List Addr) (Pv : Nat → Value → Prop) (St : Nat → Heap → Prop), (∀ A' : Around, A'.handled = none → Walks P w A' s1.heap.objs.size fp [s1.heap.objs.size] xs.length Pv St) →
      (∀ b ∈ fp, b = s1.heap.objs.size ∨ b < s.heap.objs.size) → (∀ i v, Pv i v → ∃ t, v = .str (xs.getD i Str.empty) t) → St 0 (s1.heap.push o) → Q (.ref s1.heap.objs.size) { s1 with heap := s1.heap.push o }) →
    wpAny (model P w) A (pyIter x) Q E s1

theorem sub_ls : isSubtype (.type "list") (.type "set") = pure false := PySem.F.sub_list_set
theorem sub_ts : isSubtype (.type "tuple") (.type "set") = pure false := by rw [isSubtype_type]; kernel_rfl
theorem sub_tf : isSubtype (.type "tuple") (.type "frozenset") = pure false := by rw [isSubtype_type]; kernel_rfl
theorem sub_ss : isSubtype (.type "str") (.type "set") = pure false := by rw [isSubtype_type]; kernel_rfl
theorem sub_sf : isSubtype (.type "str") (.type "frozenset") = pure false := by rw [isSubtype_type]; kernel_rfl

section
variable {P : Program} {w : World} {s : Shared}
theorem texts_list {l : Addr} {items : Array Value} {xs : List PySem.Str} (hl : s.heap.IsList l items) (hx : StrsAre items.toList xs) : Texts P w s (.ref l) xs where
  ex := by
    obtain ⟨o, ho, hc, n, hd⟩ := hl
    exact ⟨"list", fun s' k => ⟨o, k _ _ ho, hc⟩, sub_ls, PySem.F.sub_list_frozenset, by decide⟩
  it := fun s1 A E Q k h => by
    have hsz : items.size = xs.length := by rw [← StrsAre.len_eq hx, Array.length_toList]
    have hl1 : s1.heap.IsList l items := by
      obtain ⟨o, ho, r⟩ := hl
      exact ⟨o, k _ _ ho, r⟩
    obtain ⟨o, ho, hr⟩ := hl
    have hlt : l < s.heap.objs.size := Heap.lt_size ho
    have hne : l ≠ s1.heap.objs.size := Nat.ne_of_lt (Heap.lt_size (k _ _ ho))
    refine wpAny_pyIter_list hl1 (h _ [s1.heap.objs.size, l] (fun i v => items[i]? = some v) (fun i h => h.IsListIter s1.heap.objs.size l i ∧ h.IsList l items) (fun A' hA => by rw [← hsz]; exact Walks.list hA _ l hne items) (fun b hb => ?_) (fun i v hv => SS.strs_at hx i v (by rw [Array.getElem?_toList]; exact hv)) ⟨⟨_, Heap.get?_push_size _ rfl, rfl, rfl⟩, hl1.push _⟩)
    rcases List.mem_cons.mp hb with z | z
    · exact .inl z
    · rw [List.mem_singleton.mp z]; exact .inr hlt
theorem texts_tuple {l : Addr} {items : Array Value} {xs : List PySem.Str} (hl : s.heap.IsTuple l items) (hx : StrsAre items.toList xs) : Texts P w s (.ref l) xs where
  ex := by
    obtain ⟨o, ho, hc, hr⟩ := hl
    exact ⟨"tuple", fun s' k => ⟨o, k _ _ ho, hc⟩, sub_ts, sub_tf, by decide⟩
  it := fun s1 A E Q k h => by
    have hsz : items.size = xs.length := by rw [← StrsAre.len_eq hx, Array.length_toList]
    have hl1 : s1.heap.IsTuple l items := by
      obtain ⟨o, ho, r⟩ := hl
      exact ⟨o, k _ _ ho, r⟩
    obtain ⟨o, ho, hr⟩ := hl
    have hlt : l < s.heap.objs.size := Heap.lt_size ho
    have hne : l ≠ s1.heap.objs.size := Nat.ne_of_lt (Heap.lt_size (k _ _ ho))
    refine wpAny_pyIter_tuple hl1 (h _ [s1.heap.objs.size, l] (fun i v => items[i]? = some v) (fun i h => h.IsTupleIter s1.heap.objs.size l i ∧ h.IsTuple l items) (fun A' hA => by rw [← hsz]; exact Walks.tuple hA _ l hne items) (fun b hb => ?_) (fun i v hv => SS.strs_at hx i v (by rw [Array.getElem?_toList]; exact hv)) ⟨⟨_, Heap.get?_push_size _ rfl, rfl, rfl⟩, hl1.push _⟩)
    rcases List.mem_cons.mp hb with z | z
    · exact .inl z
    · rw [List.mem_singleton.mp z]; exact .inr hlt
/-- the signs of a text -/
def signs (x : PySem.Str) : List PySem.Str := x.cps.toList.map fun c => ⟨#[c]⟩
theorem texts_str {x : PySem.Str} {t : Tok} : Texts P w s (.str x t) (signs x) where
  ex := ⟨"str", fun _ _ => rfl, sub_ss, sub_sf, by decide⟩
  it := fun s1 A E Q k h => by
    have hsz : (signs x).length = x.cps.size := by unfold signs; rw [List.length_map, Array.length_toList]
    refine wpAny_pyIter_str fun o St hW h0 => h o [s1.heap.objs.size] (SignAt x) St (fun A' hA => by rw [hsz]; exact hW A' hA) (fun b hb => .inl (List.mem_singleton.mp hb)) (fun i v hv => ?_) h0
    obtain ⟨c, u, e, rfl⟩ := hv
    refine ⟨u, ?_⟩
    unfold signs
    rw [List.getD_eq_getElem?_getD, List.getElem?_map, Array.getElem?_toList, e] <;> rfl
end

section
variable {P : Program} {w : World} {A : Around} {R : Result → Shared → Prop} {I : Addr} {fp : List Addr} {n : Nat} {Pv : Nat → Value → Prop} {St : Nat → Heap → Prop}
/-- the loop that fills a set from an iterator -/
theorem fill_loop (W : Walks P w A.in1 I fp [I] n Pv St) (a : Addr) (haf : a ∉ fp) (haI : a ≠ I) (xs : List PySem.Str) (hn : xs.length = n) (hv : ∀ i v, Pv i v → ∃ t, v = .str (xs.getD i Str.empty) t) (hb : n + 1 < scanBound) :
    ∀ (k i : Nat) (s : Shared) (D : SD), n - i = k → i ≤ n → St i s.heap → s.heap.get? a = some (sObj "set" D) → TxOk P w D (intoSet [] (xs.take i)) → WalkT w D.2.2 →
      (∀ h' tk D', (∀ b o, b ≠ a → b ≠ I → s.heap.get? b = some o → h'.get? b = some o) → h'.get? a = some (sObj "set" D') → TxOk P w D' (intoSet [] xs) → WalkT w D'.2.2 → R (.ok (.ret .none)) { s with heap := h', toks := tk }) →
      codeAny (model P w) A (.builtin "set.update.loop" ⟨[.ref a, .ref I], []⟩) R s := by
  intro k
  induction k with
  | zero =>
    intro i s D hk hi hst hD F g hR
    obtain rfl : i = n := by omega
    refine codeAny_builtin PyProof.Rows.F.entry_set_update_loop ?_
    rw [Around.under_plainId PyProof.Rows.F.plain_set_update_loop _]
    show wpAny _ A.in1 (pyNext (.ref I) >>= _) _ _ s
    refine wpAny_bind (W.done s _ _ hst fun h' tk kp => ?_)
    show wpAny _ A.in1 (ret Value.none) _ _ _
    rw [← hn, List.take_length] at F
    exact wpAny_pure (hR h' tk D (fun b o _ hI e => kp b o (fun z => hI (List.mem_singleton.mp z)) e) (kp a _ (fun z => haI (List.mem_singleton.mp z)) hD) F g)
  | succ k ih =>
    intro i s D hk hi hst hD F g hR
    have hlt : i < n := by omega
    refine codeAny_builtin PyProof.Rows.F.entry_set_update_loop ?_
    rw [Around.under_plainId PyProof.Rows.F.plain_set_update_loop _]
    show wpAny _ A.in1 (pyNext (.ref I) >>= _) _ _ s
    refine wpAny_bind (W.item i s _ _ hlt hst fun v h1 tk1 hP hst1 kp => ?_)
    obtain ⟨t, rfl⟩ := hv i v hP
    have hD1 : h1.get? a = some (sObj "set" D) := kp a _ (fun z => haI (List.mem_singleton.mp z)) hD
    have tk1' : xs.take (i + 1) = xs.take i ++ [xs.getD i Str.empty] := by
      have hl : i < xs.length := by omega
      rw [List.take_succ, List.getD_eq_getElem?_getD, List.getElem?_eq_getElem hl] <;> rfl
    have len : (intoSet [] (xs.take i)).length ≤ i := by
      have q := intoSet_len (xs.take i) []
      rw [List.length_take] at q
      have z : ([] : List PySem.Str).length = 0 := rfl
      omega
    show wpAny _ A.in1 (holding [Value.str (xs.getD i Str.empty) t] (setAdd a (.str (xs.getD i Str.empty) t)) >>= _) _ _ _
    refine wpAny_bind (wpAny_holding ?_)
    unfold setAdd
    refine wpAny_holding (wpAny_bind ((PySem.strKind P w).pyHash (k := xs.getD i Str.empty) (strKind_is _ _ _ _) ?_))
    have go : ∀ (b : Bool) (h2 : Heap) (D2 : SD), (∀ c o, c ≠ a → h1.get? c = some o → h2.get? c = some o) → h2.get? a = some (sObj "set" D2) → TxOk P w D2 (intoSet [] (xs.take (i + 1))) → WalkT w D2.2.2 →
        wpAny (model P w) A.in1 (again (.builtin "set.update.loop" ⟨[.ref a, .ref I], []⟩)) (fun fin s' => match fin with | .done f => R (.ok f) s' | .again c' => c'.quiet = true ∧ codeAny (model P w) A c' R s') (fun e s' => R (.error e) s') { s with heap := h2, toks := tk1 + 1 } := fun b h2 D2 k2 hD2 F2 g2 => by
      refine wpAny_pure ⟨plainId_quiet PyProof.Rows.F.plain_set_update_loop _, ih (i + 1) _ D2 (by omega) hlt (W.frame _ _ _ hst1 fun c hc o e => k2 c o (fun z => haf (z ▸ hc)) e) hD2 F2 g2 fun h3 tk D3 k3 hD3 F3 g3 => ?_⟩
      exact hR h3 tk D3 (fun c o hca hcI e => k3 c o hca hcI (k2 c o hca (kp c o (fun z => hcI (List.mem_singleton.mp z)) e))) hD3 F3 g3
    have hs : intoSet [] (xs.take (i + 1)) = (if xs.getD i Str.empty ∈ intoSet [] (xs.take i) then intoSet [] (xs.take i) else xs.getD i Str.empty :: intoSet [] (xs.take i)) := by rw [tk1', intoSet_snoc]
    by_cases hm : xs.getD i Str.empty ∈ intoSet [] (xs.take i)
    · rw [if_pos hm] at hs
      exact add_in (s := { s with heap := h1, toks := tk1 + 1 }) hD1 F hm (by omega) (go false h1 D (fun _ _ _ e => e) hD1 (by rw [hs]; exact F) g)
    · rw [if_neg hm] at hs
      exact add_x (s := { s with heap := h1, toks := tk1 + 1 }) hD1 F hm (by omega) (go true _ _ (fun c o hc e => (upd_back hc).trans e) (get_upd _ hD1 rfl) (by rw [hs]; exact add_ok t F) (walk_add _ _ g))
end
end TS
end
/-! TS3 -/
set_option linter.all false
set_option maxRecDepth 100000
set_option maxHeartbeats 4000000
noncomputable section
namespace TS
open PySem PySem.Spec PyProof.Rows L2 PySem.Froz

/-- a new empty set's payload -/
def fresh (w : World) : SD := (#[], 0, .fresh 0 0 (!w.params.followText "set-order"))
theorem fresh_ok (P : Program) (w : World) : TxOk P w (fresh w) [] := TxOk.nil (by rfl)
theorem fresh_walk (w : World) : WalkT w (fresh w).2.2 := ⟨List.Pairwise.nil, by
  show _ ∨ (!w.params.followText "set-order") = true
  cases w.params.followText "set-order"
  · exact .inr rfl
  · exact .inl rfl⟩

section
variable {P : Program} {w : World} {A : Around} {E : Value → Shared → Prop} {s : Shared}
theorem new_set1 (x : Value) {Q : Value → Shared → Prop} (h : Q (.ref s.heap.objs.size) { s with heap := s.heap.push (sObj "set" (fresh w)) }) :
    codeAny (model P w) A (.call (.builtin "set.__new__") ⟨[.type "set", x], []⟩) (wants Q E) s := by
  refine codeAny_of_tree ?_
  show wpAny _ A.in1 (checkBuiltinCall "set.__new__" ⟨[.type "set", x], []⟩ >>= fun _ => again (.builtin "set.__new__" ⟨[.type "set", x], []⟩)) _ _ s
  refine wpAny_bind (wpAny_of_eq (PySem.F.newCall_set_1 x) (wpAny_pure ⟨plainId_quiet F.plain_set_new _, codeAny_builtin F.entry_set_new ?_⟩))
  rw [Around.under_plainId F.plain_set_new _]
  unfold Builtin.«set.__new__» Builtin.Frozenset.newClass
  have sub := sub_set_self
  obtain ⟨hp, g, d, tk, os⟩ := s
  dsimp only
  wp_walk
  refine wpAny_askSetting (wpAny_pure ?_)
  dsimp only
  simp only [newObj]
  exact wpAny_bind (wpAny_alloc (wpAny_pure (wpAny_pure h)))

set_option maxHeartbeats 8000000 in
/-- set(x), x whatever hands out the texts xs -/
theorem call_set {x : Value} {xs : List PySem.Str} {Q : Value → Shared → Prop} (T : Texts P w s x xs) (hh : A.handled = none) (hb : xs.length + 1 < scanBound)
    (h : ∀ h' tk D, (∀ b o, s.heap.get? b = some o → h'.get? b = some o) → h'.get? s.heap.objs.size = some (sObj "set" D) → TxOk P w D (intoSet [] xs) → WalkT w D.2.2 → Q (.ref s.heap.objs.size) { s with heap := h', toks := tk }) :
    wpAny (model P w) A (call (.type "set") [x]) Q E s := by
  obtain ⟨T0, hTy, sub1, sub2, nd⟩ := T.ex
  obtain ⟨c, tl, hmro⟩ := F.called_set.mro
  have made := F.called_set.made
  have sub := F.called_set.sub
  refine wpAny_call (codeAny_of_tree ?_)
  show wpAny _ _ (callAny (.type "set") _) _ _ _
  refine wpAny_pure ⟨Code.quiet_builtin _ (by decide +kernel), codeAny_builtin F.entry_type_call ?_⟩
  rw [Around.under_plain (weight_type_call_type "set" [x] []) rfl]
  have notT := F.called_set.notType
  have can := F.called_set.canCreate
  have ck := PySem.F.typeCall_set_1 x
  repeat (any_goals (first | assumption | wp_step))
  refine codeAny_mono (new_set1 x (E := E) (Q := fun obj s1 => obj = .ref s.heap.objs.size ∧ s1 = { s with heap := s.heap.push (sObj "set" (fresh w)) }) ⟨rfl, rfl⟩) fun r s1 hr => ?_
  cases r with
  | error e => exact hr
  | ok fl =>
    cases fl with
    | ret obj =>
      obtain ⟨rfl, rfl⟩ := hr
      have hS : (s.heap.push (sObj "set" (fresh w))).get? s.heap.objs.size = some (sObj "set" (fresh w)) := Heap.get?_push_size _ rfl
      have hT : Shared.TypeIs { s with heap := s.heap.push (sObj "set" (fresh w)) } (.ref s.heap.objs.size) "set" := ⟨_, hS, rfl⟩
      have lki := F.called_set.init.lookup
      have bdi := F.called_set.init.bind (.ref s.heap.objs.size)
      repeat (any_goals (first | assumption | wp_step))
      refine codeAny_mono (codeAny_call_builtin (R := wants (fun r s2 => r = .none ∧ ∃ h' tk D, s2 = { s with heap := h', toks := tk } ∧ (∀ b o, s.heap.get? b = some o → h'.get? b = some o) ∧
          h'.get? s.heap.objs.size = some (sObj "set" D) ∧ TxOk P w D (intoSet [] xs) ∧ WalkT w D.2.2) E) F.called_set.init.plain F.entry_set_init (check_set_init_1 hT ?_)) fun r2 s2 hr2 => ?_
      · have kp : ∀ b o, s.heap.get? b = some o → (s.heap.push (sObj "set" (fresh w))).get? b = some o := fun b o e => Heap.get?_push_of_some _ e
        have hx : Shared.TypeIs { s with heap := s.heap.push (sObj "set" (fresh w)) } x T0 := hTy _ kp
        unfold Builtin.«set.__init__» noKeywords Builtin.Frozenset.updateFrom
        generalize hPI : pyIter = PI
        wp_walk
        subst hPI
        have zp : (s.heap.push (sObj "set" (fresh w))).objs.size = s.heap.objs.size + 1 := Heap.size_push _ _
        refine T.it _ _ _ _ kp fun o fp Pv St hW hfp hv h0 => ?_
        refine wpAny_bind (wpAny_runValue ?_)
        have naI : s.heap.objs.size ≠ (s.heap.push (sObj "set" (fresh w))).objs.size := by rw [zp]; exact Nat.ne_of_lt (Nat.lt_succ_self _)
        have naf : s.heap.objs.size ∉ fp := fun z => by
          rcases hfp _ z with q | q
          · exact naI q
          · exact Nat.lt_irrefl _ q
        refine fill_loop (hW A.in1.in1.in1 (by simp [hh])) s.heap.objs.size naf naI xs rfl hv hb (xs.length - 0) 0 _ (fresh w) rfl (Nat.zero_le _) h0 (Heap.get?_push_of_some _ hS) (fresh_ok P w) (fresh_walk w) fun h' tk D' k' hD' F' g' => ?_
        show wpAny _ _ _ _ _ _
        refine wpAny_pure ?_
        show wpAny _ _ (ret Value.none) _ _ _
        refine wpAny_pure ⟨rfl, h', tk, D', rfl, fun b o e => ?_, hD', F', g'⟩
        have lt := Heap.lt_size e
        exact k' b o (Nat.ne_of_lt lt) (by rw [zp]; exact Nat.ne_of_lt (Nat.lt_succ_of_lt lt)) (Heap.get?_push_of_some _ (kp b o e))
      · cases r2 with
        | error e => exact hr2
        | ok fl2 =>
          cases fl2 with
          | ret r =>
            obtain ⟨rfl, h', tk, D, rfl, k', hD, F', g'⟩ := hr2
            repeat (any_goals (first | assumption | wp_step))
            exact h h' tk D k' hD F' g'
          | _ => exact hr2.elim
    | _ => exact hr.elim
end
end TS
end
/-! TS4 -/
set_option linter.all false
set_option maxRecDepth 100000
set_option maxHeartbeats 4000000
noncomputable section
namespace TS
open PySem PySem.Spec PyProof.Rows L2 PySem.Froz

/-- x hands out the texts xs: a list, a tuple, a text -/
def TextsV (K : PySem.W.Frag) (H : Hp) (x : V) (xs : List PySem.Str) : Prop :=
  (∃ a, x = .ref a ∧ SqL K H a (xs.map V.str)) ∨ (∃ a, x = .ref a ∧ SqT K H a (xs.map V.str)) ∨ ∃ z, x = .str z ∧ xs = signs z
def rSetNew (P : Program) (w : World) (K : PySem.W.Frag) : List V → Hp → VK → Prop := fun vs H Q => ∃ x xs, vs = [x] ∧ TextsV K H x xs ∧ xs.length ≤ 4000 ∧
  ∀ p, H p = none → Q (.ref p) (upd H p (SetS P w p (intoSet [] xs)))
def rSortedSet (P : Program) (w : World) : List V → Hp → VK → Prop := fun vs H Q => ∃ a l, vs = [V.ref a] ∧ H a = some (SetS P w a l) ∧ l.Nodup ∧ l.length ≤ 4000 ∧
  ∀ (ys : List PySem.Str) (p : Addr), ys.Perm l → sortedS ys = true → H p = none → Q (.ref p) (upd H p (.lst (ys.map V.str)))
def rSortedT (K : PySem.W.Frag) : List V → Hp → VK → Prop := fun vs H Q => ∃ (a : Addr) (xs : List PySem.Str), vs = [V.ref a] ∧ SqL K H a (xs.map V.str) ∧
  ∀ (ys : List PySem.Str) (p : Addr), ys.Perm xs → sortedS ys = true → H p = none → Q (.ref p) (upd H p (.lst (ys.map V.str)))

theorem scan4000 {n : Nat} (h : n ≤ 4000) : n + 1 < scanBound := by unfold scanBound; omega
theorem line4000 {n : Nat} (h : n ≤ 4000) : n ≤ sizeLine := by rw [sizeLine_eq]; omega

section
variable {X : Cx} {pins : List (Addr × Obj)} {σ : L2.St} {H : Hp} {s : Shared}
theorem texts_of {x : V} {u : Value} {xs : List PySem.Str} (I : Inv X pins σ H s) (r : RelV x u) (h : TextsV X.K H x xs) : Texts X.prog X.w s u xs := by
  rcases h with ⟨a, rfl, h⟩ | ⟨a, rfl, h⟩ | ⟨z, rfl, rfl⟩
  · obtain rfl : u = Value.ref a := r
    obtain ⟨its, rv, hl, _⟩ := I.list h
    exact texts_list hl.isList rv.strs
  · obtain rfl : u = Value.ref a := r
    obtain ⟨its, rv, hl, _⟩ := I.tuple h
    exact texts_tuple hl rv.strs
  · obtain ⟨t, rfl⟩ := r
    exact texts_str
theorem cr_setNew (hc : X.calm = true) : CallR X (.type "set") (rSetNew X.prog X.w X.K) := by
  intro pins s σ H vs us Q I r h
  obtain ⟨x, xs, rfl, hx, hz, q⟩ := h
  obtain ⟨u, rfl, ru⟩ := r.one
  refine call_set (texts_of I ru hx) (I.ok.hd hc) (scan4000 hz) fun h' tk D k hD F g => ?_
  have hn : H s.heap.objs.size = none := I.hok.fresh (Nat.le_refl _)
  exact ⟨.ref s.heap.objs.size, _, I.laid (t' := tk) k (Nat.le_refl _) (setS_new hD F g), rfl, q _ hn⟩

theorem strs_of (P : Program) (w : World) : ∀ {us : List Value}, (∀ u ∈ us, ∃ k tk, u = Value.str k tk) → ∃ ss, StrsAre us ss
  | [], _ => ⟨[], .nil⟩
  | u :: us, h => by
    obtain ⟨k, tk, rfl⟩ := h u List.mem_cons_self
    obtain ⟨ss, r⟩ := strs_of P w (us := us) fun e he => h e (List.mem_cons_of_mem _ he)
    exact ⟨k :: ss, .cons k tk r⟩
theorem strs_mem : ∀ {us : List Value} {ss : List PySem.Str}, StrsAre us ss → ∀ k, k ∈ ss ↔ ∃ u ∈ us, (strKind X.prog X.w).is k u = true
  | _, _, .nil, k => by simp
  | _, _, .cons n t r, k => by
    have ih := strs_mem r k
    have e : (strKind X.prog X.w).is k (.str n t) = true ↔ k = n := by
      constructor
      · intro h
        have q := (strKind X.prog X.w).inj (.str n t) k n h (is_str n t)
        exact q
      · rintro rfl; exact is_str k t
    simp only [List.mem_cons, exists_eq_or_imp, ih, e]
theorem perm_of_sub : ∀ {l ss : List PySem.Str}, l.Nodup → (∀ k ∈ l, k ∈ ss) → ss.length ≤ l.length → ss.Perm l
  | [], ss, _, _, h => by
    obtain rfl : ss = [] := List.length_eq_zero_iff.mp (Nat.le_zero.mp h)
    exact .refl _
  | k :: l, ss, d, m, h => by
    obtain ⟨d1, d2⟩ := List.nodup_cons.mp d
    have hk := m k List.mem_cons_self
    have p := List.perm_cons_erase hk
    have el : (ss.erase k).length + 1 = ss.length := by rw [p.length_eq, List.length_cons]
    refine p.trans (.cons k (perm_of_sub d2 (fun j hj => ?_) (by simp only [List.length_cons] at h; omega)))
    have ne : j ≠ k := fun z => d1 (z ▸ hj)
    exact (List.mem_erase_of_ne ne).mpr (m j (List.mem_cons_of_mem _ hj))

theorem cr_sortedSet (hc : X.calm = true) : CallR X (.builtin "sorted") (rSortedSet X.prog X.w) := by
  intro pins s σ H vs us Q I r h
  obtain ⟨a, l, rfl, ha, nd, hz, q⟩ := h
  rw [Vals.ref1 r]
  obtain ⟨D, hD, F, g⟩ := setS_get I ha
  obtain ⟨es, ep, t⟩ := D
  have size : es.size = l.length := F.sz
  refine Calls.call_function_entry kind_sorted plain_sorted entry_sorted (args_sorted1 _) ?_
  unfold Builtin.«sorted»
  refine wpAny_bind (m := checkCount "sorted" 1 1 _) (wpAny_pure ?_)
  refine wpAny_bind (collect_set (A := X.A.in1) (I.ok.hd hc) ⟨_, hD, rfl, rfl⟩ F.fit (by rw [size]; have := scan4000 hz; omega) g.ris g.led fun s1 vs k1 z1 g1 o1 pm => ?_)
  have hlen : vs.length = l.length := by rw [pm.length_eq, List.length_map, Array.length_toList]; exact size
  obtain ⟨ss, hS⟩ : ∃ ss, StrsAre vs ss := strs_of X.prog X.w fun u hu => by
    obtain ⟨e, he, rfl⟩ := List.mem_map.mp (pm.mem_iff.mp hu)
    obtain ⟨⟨k, hk, _⟩, _⟩ := F.el e he
    obtain ⟨tk, z⟩ := (by
      have q := hk
      exact keyIs_shape (k := Sum.inr k) q : (∃ i t, (Sum.inr k : Key) = Sum.inl i ∧ e.2 = Value.int i t) ∨ (∃ x t, (Sum.inr k : Key) = Sum.inr x ∧ e.2 = Value.str x t)).elim (fun ⟨i, t, z, _⟩ => nomatch z) (fun ⟨x, t, _, z⟩ => (⟨x, t, z⟩ : ∃ x t, e.2 = Value.str x t))
    exact ⟨_, _, z.choose_spec⟩
  have ps : ss.Perm l := by
    refine perm_of_sub nd (fun k hk => ?_) (by rw [← StrsAre.len_eq hS, hlen]; exact Nat.le_refl _)
    obtain ⟨e, he, z⟩ := (F.mem k).mp hk
    exact (strs_mem (X := X) hS k).mpr ⟨e.2, pm.mem_iff.mpr (List.mem_map.mpr ⟨e, he, rfl⟩), z⟩
  refine wpAny_bind (wpAny_newList ?_ (by rw [hlen]; exact line4000 hz))
  have hoL : (s1.heap.push (seqObj "list" vs.toArray 0)).get? s1.heap.objs.size = some (seqObj "list" vs.toArray 0) := Heap.get?_push_size _ rfl
  refine wpAny_bind (wpAny_holding (wpAny_call_entry slot_list_sort ⟨_, hoL, rfl⟩ entry_list_sort (list_sort_treeKAny strKind_oneLt hoL hS.keysOf (fun v1 v2 rest e => keyKind_strs (by rw [← e]; exact hS)) (by rw [hlen]; exact line4000 hz) fun st' hp hs => ?_) (args_list_sort _)))
  obtain ⟨ys, y1, y2, y3⟩ := sorted_out_str hS hp hs
  refine ⟨_, rfl, ?_⟩
  obtain ⟨c, hc2⟩ := sortedHeap_at (vs := vs) (out := (arrOf st').map (·.2)) hoL
  have hn : H s1.heap.objs.size = none := I.hok.fresh z1
  have kk : ∀ b u, s.heap.get? b = some u → (sortedHeap (s1.heap.push (seqObj "list" vs.toArray 0)) s1.heap.objs.size vs ((arrOf st').map (·.2))).get? b = some u := fun b u e => by
    have lt := Heap.lt_size (k1 b u e)
    rw [sortedHeap_old (Nat.ne_of_lt lt) (by rw [size_push']; exact Nat.lt_succ_of_lt lt)]
    exact Heap.get?_push_of_some _ (k1 b u e)
  have yl : (ys.map V.str).length ≤ sizeLine := by rw [List.length_map, (y2.trans ps).length_eq]; exact line4000 hz
  have J : Inv X pins σ (upd H s1.heap.objs.size (.lst (ys.map V.str))) { s with heap := sortedHeap (s1.heap.push (seqObj "list" vs.toArray 0)) s1.heap.objs.size vs ((arrOf st').map (·.2)), gens := s1.gens, drawn := s1.drawn, toks := s1.toks } :=
    I.call (ch := []) (Un.laid kk z1 hn) (I.hok.laid kk z1 ⟨yl, _, c, vals_of_strs y1, hc2⟩) (by rw [g1]; exact I.bare) (fun _ z => nomatch z)
  obtain ⟨hp', g', d', tk', os'⟩ := s1
  obtain ⟨hp0, g0, d0, tk0, os0⟩ := s
  have eo : os' = os0 := o1
  subst eo
  exact wpAny_pure ⟨_, rfl, .ref _, _, J, rfl, q ys _ (y2.trans ps) y3 hn⟩
/-- sorted(xs), texts, any number -/
theorem cr_sortedT : CallR X (.builtin "sorted") (rSortedT X.K) := by
  intro pins s σ H vs us Q I r h
  obtain ⟨a, xs, rfl, hs, q⟩ := h
  obtain ⟨its, rv, hl, hz⟩ := I.list hs
  rw [Vals.ref1 r]
  have zl := rv.length
  refine sorted_strsAny hl.isList rv.strs (by rw [← zl]; exact hz) fun out ys h1 h2 h3 => ?_
  obtain ⟨ep, he⟩ := sortedAll_at s.heap its out
  have yl : (ys.map V.str).length ≤ sizeLine := by rw [List.length_map, h2.length_eq, ← List.length_map (f := V.str)]; exact hz
  exact ⟨.ref _, upd H (s.heap.objs.size + 1) (.lst (ys.map V.str)), I.laid (t' := s.toks) (fun _ _ => sortedAll_old) (Nat.le_succ _) ⟨yl, out.toList, ep, vals_of_strs h1, he⟩, rfl, q ys _ h2 h3 (I.hok.fresh (Nat.le_succ _))⟩
end
end TS
end
/-! TS5 -/
set_option linter.all false
set_option maxRecDepth 100000
set_option maxHeartbeats 4000000
noncomputable section
namespace TS
open PySem PySem.Spec PyProof.Rows L2

/-- keys, value by value -/
abbrev KeysFor (g : Value → Value → Prop) : List Value → List Value → Prop := Paired fun v k => g v k

section
variable {P : Program} {w : World} {A : Around} {E : Value → Shared → Prop} {s : Shared} {κ : KeyKind} {g : Value → Value → Prop} {vs : List Value} {f : Value} {kw : List (PySem.Str × Value)}
/-- what a sort by a key leaves: the pairs of keys and values, in order -/
structure ByKey (κ : KeyKind) (g : Value → Value → Prop) (vs : List Value) (xs : Array Keyed) : Prop where
  ks : ∃ ks, KeysFor g vs ks ∧ xs.Perm (ks.toArray.zip vs.toArray) ∧ SortedToK κ xs xs.size ∧ Stable κ xs (ks.toArray.zip vs.toArray)

theorem byKey_tail {a kS : Addr} {keys : Array Value} {e e1 : Nat} {st : SortSt} {R : PySem.Fin → Shared → Prop} (hka : kS ≠ a) (hk : s.heap.get? kS = some (seqObj "list" keys e)) (ha : s.heap.get? a = some (seqObj "list" #[] e1))
    (hks : keys.size ≤ sizeLine) (hz : (arrOf st).size ≤ sizeLine) (hfl : failedOf st = none)
    (h : ∀ h' tk c, (∀ b o, b ≠ a → b ≠ kS → s.heap.get? b = some o → h'.get? b = some o) → h'.get? a = some (seqObj "list" ((arrOf st).map (·.2)) c) → R (.done (.ret .none)) { s with heap := h', toks := tk }) :
    wpAny (model P w) A (PyProof.Rows.ksk_tail a false e1 (.ref kS) st) R E s := by
  have b1 := Heap.SameBut.update s.heap kS (Obj.mapSeq fun _ => (#[] : Array Value))
  have ha1 := (b1.2 a hka.symm).trans ha
  unfold PyProof.Rows.ksk_tail
  try dsimp only
  refine wpAny_bind (listUpdate_at hk rfl ?_ hks (Nat.zero_le _))
  refine wpAny_bind (wpAny_letGo (wpAny_bind (seqEpoch_at ha1 rfl ?_)))
  refine wpAny_bind (listUpdate_at ha1 rfl ?_ (Nat.zero_le _) (by
    show ((arrOf st).map (·.2)).size ≤ _
    rw [Array.size_map]; first | exact hz | exact Nat.le_trans hz (Nat.le_succ _)))
  rw [hfl]
  simp only [bne_self_eq_false, Bool.false_eq_true, if_false]
  have b2 := Heap.SameBut.update (s.heap.update kS (Obj.mapSeq fun _ => (#[] : Array Value))) a (Obj.mapSeq fun _ => (arrOf st).map (·.2))
  exact wpAny_pure (h _ _ _ (fun b o h1 h2 z => (b2.2 b h1).trans ((b1.2 b h2).trans z)) (get?_update_seq ha1 fun _ => (arrOf st).map (·.2)))

theorem keysFor_len {ks : List Value} (r : KeysFor g vs ks) : ks.length = vs.length := (Paired.length r).symm

theorem byKey_end (hO : κ.OneLt) {a kS : Addr} {ks : List Value} {e e1 : Nat} {R : PySem.Fin → Shared → Prop} (hka : kS ≠ a) (hk : s.heap.get? kS = some (seqObj "list" ks.toArray e)) (ha : s.heap.get? a = some (seqObj "list" #[] e1))
    (r : KeysFor g vs ks) (hkey : ∀ v k, g v k → ∃ c, κ.keyOf k = some c) (hkk : 2 ≤ vs.length → keyKind' ks.toArray = pure oneType') (hz : vs.length ≤ sizeLine)
    (h : ∀ h' tk c xs, (∀ b o, b ≠ a → b ≠ kS → s.heap.get? b = some o → h'.get? b = some o) → h'.get? a = some (seqObj "list" (xs.map (·.2)) c) → ByKey κ g vs xs → R (.done (.ret .none)) { s with heap := h', toks := tk }) :
    wpAny (model P w) A (PyProof.Rows.ksk_end a false vs.toArray e1 (.ref kS) ks.toArray) R E s := by
  have kl := keysFor_len r
  have zs : (ks.toArray.zip vs.toArray).size = vs.length := by rw [Array.size_zip, List.size_toArray, List.size_toArray, kl, Nat.min_self]
  have ok : KeysOf κ (ks.toArray.zip vs.toArray) := fun p hp => by
    have q : p ∈ ks.zip vs := by
      have z := hp
      rw [Array.toList_zip] at z
      simpa using z
    have go : ∀ {vs ks : List Value}, KeysFor g vs ks → ∀ p ∈ ks.zip vs, g p.2 p.1 := by
      intro vs ks r
      induction r with
      | nil => intro p hp; simp at hp
      | cons r t ih =>
        intro p hp
        rcases List.mem_cons.mp (show p ∈ _ :: _ from hp) with z | z
        · rw [z]; exact r
        · exact ih p z
    exact hkey _ _ (go r p q)
  unfold PyProof.Rows.ksk_end
  try dsimp only
  simp only [Bool.false_eq_true, if_false]
  by_cases h2 : vs.toArray.size < 2
  · rw [if_pos h2, if_pos h2]
    refine wpAny_bind (wpAny_pure ?_)
    rw [StateT.run_pure]
    refine wpAny_bind (wpAny_pure ?_)
    try dsimp only
    refine byKey_tail (st := SortSt.mk' general' (ks.toArray.zip vs.toArray) #[] 7 none) hka hk ha (by rw [List.size_toArray, kl]; exact hz) (by show (ks.toArray.zip vs.toArray).size ≤ _; rw [zs]; exact hz) rfl fun h' tk c kp hh => h h' tk c _ kp hh ⟨ks, r, Array.Perm.refl _, ?_, Stable.refl _⟩
    intro i j hij hj
    have hj2 : j < vs.length := by rw [← zs]; exact hj
    rw [List.size_toArray] at h2
    obtain rfl : i = j := by omega
    exact KeyOrd.kle_refl _
  · rw [if_neg h2, if_neg h2]
    rw [List.size_toArray] at h2
    rw [hkk (by omega)]
    refine wpAny_bind (wpAny_pure ?_)
    refine wpAny_bind (wpAny_mono (wpS_sortRunsSt (κ := κ) (a₀ := ks.toArray.zip vs.toArray) (st := SortSt.mk' oneType' (ks.toArray.zip vs.toArray) #[] 7 none)
      (Q := fun _ st' => (arrOf st').Perm (ks.toArray.zip vs.toArray) ∧ failedOf st' = none ∧ SortedToK κ (arrOf st') (arrOf st').size ∧ Stable κ (arrOf st') (ks.toArray.zip vs.toArray))
      hO ok ⟨Array.Perm.refl _, rfl, rfl⟩ rfl (Stable.refl _) (by rw [zs]; omega) fun st' a1 a2 a3 a4 => ⟨a1, a2, by rw [a1.size_eq]; exact a3, a4⟩) ?_ fun _ _ e => e)
    rintro ⟨⟨⟩, st'⟩ s' ⟨rfl, hp, hf, hs, hst⟩
    try dsimp only
    exact byKey_tail hka hk ha (by rw [List.size_toArray, kl]; exact hz) (by rw [hp.size_eq, zs]; exact hz) hf fun h' tk c kp hh => h h' tk c _ kp hh ⟨ks, r, hp, hs, hst⟩
end
end TS
end
/-! TS6 -/
set_option linter.all false
set_option maxRecDepth 100000
set_option maxHeartbeats 4000000
noncomputable section
namespace TS
open PySem PySem.Spec PyProof.Rows L2

section
variable {P : Program} {w : World} {A : Around} {E : Value → Shared → Prop} {s : Shared} {κ : KeyKind} {g : Value → Value → Prop} {vs : List Value} {f : Value} {kw : List (PySem.Str × Value)}
/-- each value's key is asked, nothing else happens -/
def AsksKey (P : Program) (w : World) (A : Around) (f : Value) (g : Value → Value → Prop) (vs : List Value) : Prop := ∀ v ∈ vs, ∀ s' : Shared, wpAny (model P w) A (call f [v]) (fun k s2 => (∃ tk, s2 = { s' with toks := tk }) ∧ g v k) (fun _ _ => False) s'

theorem keysFor_snoc : ∀ {as ks : List Value} {v k : Value}, KeysFor g as ks → g v k → KeysFor g (as ++ [v]) (ks ++ [k])
  | _, _, _, _, .nil, h => .cons h .nil
  | _, _, _, _, .cons r t, h => .cons r (keysFor_snoc t h)

theorem byKey_rest (hO : κ.OneLt) {a kS : Addr} {e e1 : Nat} {R : PySem.Fin → Shared → Prop} (hka : kS ≠ a) (hk : s.heap.get? kS = some (seqObj "list" #[] e)) (ha : s.heap.get? a = some (seqObj "list" #[] e1))
    (ask : AsksKey P w A f g vs) (hkey : ∀ v k, g v k → ∃ c, κ.keyOf k = some c) (hkk : ∀ ks, KeysFor g vs ks → 2 ≤ vs.length → keyKind' ks.toArray = pure oneType') (hz : vs.length ≤ sizeLine)
    (h : ∀ h' tk c xs, (∀ b o, b ≠ a → b ≠ kS → s.heap.get? b = some o → h'.get? b = some o) → h'.get? a = some (seqObj "list" (xs.map (·.2)) c) → ByKey κ g vs xs → R (.done (.ret .none)) { s with heap := h', toks := tk }) :
    wpAny (model P w) A (PyProof.Rows.ksk_rest a f false vs.toArray e1 (.ref kS)) R E s := by
  unfold PyProof.Rows.ksk_rest
  refine wpAny_bind (wpAny_rule ?_)
  first
    | rw [List.forIn_toArray]
    | (rw [← Array.forIn_toList]; simp only [List.toList_toArray])
    | rw [← Array.forIn_toList]
  refine wpAny_bind (ksk_fold (fun i s' => ∃ h' tk ks c, s' = { s with heap := h', toks := tk } ∧ (∀ b o, b ≠ a → b ≠ kS → s.heap.get? b = some o → h'.get? b = some o) ∧ h'.get? kS = some (seqObj "list" (List.toArray ks) c) ∧
    h'.get? a = some (seqObj "list" #[] e1) ∧ KeysFor g (vs.take i) ks) vs 0 s ⟨s.heap, s.toks, [], e, rfl, fun _ _ _ _ z => z, hk, ha, by rw [List.take_zero]; exact .nil⟩ ?step ?done)
  case step =>
    rintro j x s' hx ⟨h', tk, ks, c, rfl, kp, hk', ha', r⟩
    simp only [Nat.zero_add] at r ⊢
    have hj : j < vs.length := (List.getElem?_eq_some_iff.mp hx).1
    have kl : ks.length = j := by
      have q := Paired.length r
      rw [List.length_take] at q
      omega
    refine wpAny_bind (wpAny_attempt (wpAny_mono (ask x (List.mem_of_getElem? hx) _) (fun k s2 hq => ?_) fun _ _ z => z.elim))
    obtain ⟨⟨tk2, rfl⟩, gk⟩ := hq
    try dsimp only
    have b1 := Heap.SameBut.update h' kS (Obj.mapSeq (·.push k))
    obtain ⟨c2, hc2⟩ : ∃ c2, (h'.update kS (Obj.mapSeq (·.push k))).get? kS = some (seqObj "list" (List.toArray (ks ++ [k])) c2) := by
      have q := get?_update_seq hk' (·.push k)
      rw [List.push_toArray] at q
      exact ⟨_, q⟩
    have ek : vs.take (j + 1) = vs.take j ++ [x] := by rw [List.take_add_one, hx] <;> rfl
    refine wpAny_bind (listUpdate_at hk' rfl ?_ (by rw [List.size_toArray, kl]; omega) (by
      show ((List.toArray ks).push k).size ≤ _
      rw [Array.size_push, List.size_toArray, kl]; omega))
    exact wpAny_pure ⟨rfl, _, _, ks ++ [k], c2, rfl, fun b o h1 h2 z => (b1.2 b h2).trans (kp b o h1 h2 z), hc2, (b1.2 a hka.symm).trans ha', by rw [ek]; exact keysFor_snoc r gk⟩
  case done =>
    rintro s' ⟨h', tk, ks, c, rfl, kp, hk', ha', r⟩
    have e3 : vs.take (0 + vs.length) = vs := List.take_of_length_le (by omega)
    rw [e3] at r
    try dsimp only
    refine wpAny_bind (listItems_at hk' rfl ?_)
    exact byKey_end (s := { s with heap := h', toks := tk }) hO hka hk' ha' r hkey (hkk ks r) hz fun h2 tk2 c2 xs k2 q2 bk => h h2 tk2 c2 xs (fun b o h1 h3 z => k2 b o h1 h3 (kp b o h1 h3 z)) q2 bk

/-- sorted(l, key=f) over the raw heap -/
theorem sorted_byKey (hO : κ.OneLt) {l : Addr} {Q : Value → Shared → Prop} (hl : s.heap.IsList l vs.toArray) (hz : vs.length ≤ sizeLine)
    (ha1 : argsOk "sorted" ⟨[.ref l], kw⟩) (ha2 : ∀ x, argsOk "list.sort" ⟨[.ref x], kw⟩) (ht : ∀ x, Builtin.«list.sort» ⟨[.ref x], kw⟩ = ksk_tree x f false)
    (ask : AsksKey P w A.in1.in1 f g vs) (hkey : ∀ v k, g v k → ∃ c, κ.keyOf k = some c) (hkk : ∀ ks, KeysFor g vs ks → 2 ≤ vs.length → keyKind' ks.toArray = pure oneType')
    (h : ∀ D h' tk c xs, (∀ b o, s.heap.get? b = some o → h'.get? b = some o) → s.heap.objs.size ≤ D → h'.get? D = some (seqObj "list" (xs.map (·.2)) c) → ByKey κ g vs xs → Q (.ref D) { s with heap := h', toks := tk }) :
    wpAny (model P w) A (call (.builtin "sorted") [.ref l] kw) Q E s := by
  refine call_function_entry_kw kind_sorted plain_sorted entry_sorted ha1 ?_
  unfold Builtin.«sorted»
  refine wpAny_bind (m := checkCount "sorted" 1 1 _) (wpAny_pure ?_)
  refine wpAny_bind (collect_list hl ?_ hz)
  refine wpAny_bind (wpAny_newList ?_ hz)
  have sz1 : ((s.heap.push (seqObj "list" #[] 0)).update s.heap.objs.size (Obj.mapSeq (· ++ vs.toArray))).objs.size = s.heap.objs.size + 1 := by
    rw [Heap.size_update, size_push']
  have old : ∀ b o, s.heap.get? b = some o → ((s.heap.push (seqObj "list" #[] 0)).update s.heap.objs.size (Obj.mapSeq (· ++ vs.toArray))).get? b = some o := fun b o q => by
    rw [Heap.get?_update_ne _ _ _ _ (Nat.ne_of_lt (Heap.lt_size q))]
    exact Heap.get?_push_of_some _ q
  generalize (s.heap.push (seqObj "list" #[] 0)).update s.heap.objs.size (Obj.mapSeq (· ++ vs.toArray)) = h1 at sz1 old ⊢
  have hoL : (h1.push (seqObj "list" vs.toArray 0)).get? h1.objs.size = some (seqObj "list" vs.toArray 0) := Heap.get?_push_size _ rfl
  refine wpAny_bind (wpAny_holding (wpAny_call_entry_kw slot_list_sort ⟨_, hoL, rfl⟩ entry_list_sort ?body (ha2 _)))
  case body =>
    show wpAny (model P w) A.in1.in1 (Builtin.«list.sort» ⟨[.ref h1.objs.size], kw⟩) _ _ _
    rw [ht h1.objs.size]
    unfold PyProof.Rows.ksk_tree
    have e2 := get?_update_seq hoL fun _ => (#[] : Array Value)
    refine wpAny_bind (listItems_at hoL rfl ?_)
    refine wpAny_bind (listUpdate_at hoL rfl ?_ (by rw [List.size_toArray]; exact hz) (Nat.zero_le _))
    refine wpAny_bind (seqEpoch_at e2 rfl ?_)
    refine wpAny_bind (wpAny_newTuple ?_ (by show vs.length ≤ _; exact hz))
    refine wpAny_bind (wpAny_newList ?_ (Nat.zero_le _))
    refine wpAny_holding ?_
    have sz2 : ((h1.push (seqObj "list" vs.toArray 0)).update h1.objs.size (Obj.mapSeq fun _ => (#[] : Array Value))).objs.size = h1.objs.size + 1 := by rw [Heap.size_update, size_push']
    have sz3 : (((h1.push (seqObj "list" vs.toArray 0)).update h1.objs.size (Obj.mapSeq fun _ => (#[] : Array Value))).push (seqObj "tuple" vs.toArray 0)).objs.size = h1.objs.size + 2 := by rw [size_push', sz2]
    have old2 : ∀ b o, s.heap.get? b = some o → ((((h1.push (seqObj "list" vs.toArray 0)).update h1.objs.size (Obj.mapSeq fun _ => (#[] : Array Value))).push (seqObj "tuple" vs.toArray 0)).push (seqObj "list" #[] 0)).get? b = some o := fun b o q => by
      have lt := Heap.lt_size q
      refine Heap.get?_push_of_some _ (Heap.get?_push_of_some _ ?_)
      rw [Heap.get?_update_ne _ _ _ _ (by rw [sz1]; exact Nat.ne_of_lt (Nat.lt_succ_of_lt lt))]
      exact Heap.get?_push_of_some _ (old b o q)
    refine byKey_rest hO (s := { s with heap := (((h1.push (seqObj "list" vs.toArray 0)).update h1.objs.size (Obj.mapSeq fun _ => (#[] : Array Value))).push (seqObj "tuple" vs.toArray 0)).push (seqObj "list" #[] 0) })
      (kS := (((h1.push (seqObj "list" vs.toArray 0)).update h1.objs.size (Obj.mapSeq fun _ => (#[] : Array Value))).push (seqObj "tuple" vs.toArray 0)).objs.size)
      (by rw [sz3]; exact Nat.ne_of_gt (by show _ < _ + 2; omega)) (Heap.get?_push_size _ rfl) (Heap.get?_push_of_some _ (Heap.get?_push_of_some _ e2)) ask hkey hkk hz fun h' tk c xs kp q bk => ⟨_, rfl, ?_⟩
    refine wpAny_pure ⟨_, rfl, h _ h' tk c xs (fun b o z => kp b o ?_ ?_ (old2 b o z)) (by rw [sz1]; exact Nat.le_succ _) q bk⟩
    · rw [sz1]; exact Nat.ne_of_lt (Nat.lt_succ_of_lt (Heap.lt_size z))
    · rw [sz3, sz1]
      have lt : b < s.heap.objs.size := Heap.lt_size z
      exact Nat.ne_of_lt (by show b < s.heap.objs.size + 1 + 2; exact Nat.lt_of_lt_of_le lt (Nat.le_add_right _ 3))
end
end TS
end
/-! TS7 -/
set_option linter.all false
set_option maxRecDepth 100000
set_option maxHeartbeats 4000000
noncomputable section
namespace TS
open PySem PySem.Spec PyProof.Rows L2

/-- a text's key k: what kf says -/
def TextKey (κ : KeyKind) (kf : PySem.Str → κ.α) (T : Value → Prop) (v k : Value) : Prop := ∃ x t, v = .str x t ∧ κ.keyOf k = some (kf x) ∧ T k
def sameC (κ : KeyKind) (c a : κ.α) : Bool := !κ.blt a c && !κ.blt c a

theorem zip_keys {g : Value → Value → Prop} : ∀ {vs ks : List Value}, KeysFor g vs ks → ∀ p ∈ ks.zip vs, g p.2 p.1
  | _, _, .nil, p, hp => by simp at hp
  | _, _, .cons r t, p, hp => by
    rcases List.mem_cons.mp (show p ∈ _ :: _ from hp) with z | z
    · rw [z]; exact r
    · exact zip_keys t p z
theorem zip_snd {g : Value → Value → Prop} : ∀ {vs ks : List Value}, KeysFor g vs ks → (ks.zip vs).map (·.2) = vs
  | _, _, .nil => rfl
  | _, _, .cons r t => by
    show _ :: (List.zip _ _).map (·.2) = _ :: _
    rw [zip_snd t]
theorem zip_list (ks vs : List Value) : (ks.toArray.zip vs.toArray).toList = ks.zip vs := by rw [Array.toList_zip]

theorem byKey_strs {κ : KeyKind} {kf : PySem.Str → κ.α} {T : Value → Prop} {vs : List Value} {ss : List PySem.Str} {xs : Array Keyed} (hS : StrsAre vs ss) (b : ByKey κ (TextKey κ kf T) vs xs) :
    ∃ ys, StrsAre (xs.map (·.2)).toList ys ∧ ys.Perm ss ∧ ys.Pairwise (fun x y => κ.kle (kf x) (kf y)) ∧ ∀ c, ys.filter (fun x => sameC κ c (kf x)) = ss.filter (fun x => sameC κ c (kf x)) := by
  obtain ⟨ks, r, pm, so, st⟩ := b.ks
  have pl : xs.toList.Perm (ks.zip vs) := by rw [← zip_list]; exact Array.perm_iff_toList_perm.mp pm
  have key : ∀ p ∈ xs.toList, TextKey κ kf T p.2 p.1 := fun p hp => zip_keys r p (pl.mem_iff.mp hp)
  have row : ∀ (l : List Keyed), (∀ p ∈ l, TextKey κ kf T p.2 p.1) → ∀ c, ((l.map fun p => strOf p.2).filter fun x => sameC κ c (kf x)) = (rowOf κ c l).map fun p => strOf p.2 := fun l h c => by
    unfold rowOf
    rw [List.filter_map]
    refine congrArg _ (List.filter_congr fun p hp => ?_)
    obtain ⟨x, t, e1, e2, _⟩ := h p hp
    show sameC κ c (kf (strOf p.2)) = sameKey κ c p
    unfold sameKey
    rw [e1, e2] <;> rfl
  have sn : (ks.zip vs).map (fun p => strOf p.2) = ss := by
    have e : (ks.zip vs).map (fun p => strOf p.2) = ((ks.zip vs).map (·.2)).map strOf := by rw [List.map_map] <;> rfl
    rw [e, zip_snd r]; exact hS.strs
  refine ⟨xs.toList.map fun p => strOf p.2, ?_, ?_, ?_, fun c => ?_⟩
  · have q := strsAre_map (xs.map (·.2)).toList fun v hv => by
      rw [Array.toList_map] at hv
      obtain ⟨p, hp, rfl⟩ := List.mem_map.mp hv
      obtain ⟨x, t, e1, _⟩ := key p hp
      exact ⟨x, t, e1⟩
    rw [Array.toList_map, List.map_map] at q
    rw [Array.toList_map]
    exact q
  · rw [← sn]; exact pl.map _
  · rw [List.pairwise_map, List.pairwise_iff_getElem]
    intro i j hi hj hij
    have hi' : i < xs.size := by simpa using hi
    have hj' : j < xs.size := by simpa using hj
    have q := so i j (Nat.le_of_lt hij) hj'
    have at_ : ∀ (k : Nat) (hk : k < xs.size), KK κ xs k = kf (strOf (xs.toList[k]'(by simpa using hk)).2) := fun k hk => by
      have hm : xs.toList[k]'(by simpa using hk) ∈ xs.toList := List.getElem_mem _
      obtain ⟨x, t, e1, e2, _⟩ := key _ hm
      rw [e1]
      unfold KK
      rw [Array.getElem?_eq_getElem hk]
      show (κ.keyOf (xs[k]).1).getD κ.dflt = kf x
      rw [show (xs[k]).1 = (xs.toList[k]'(by simpa using hk)).1 from by simp, e2] <;> rfl
    rw [at_ i hi', at_ j hj'] at q
    exact q
  · rw [row _ key, st c, ← sn, row _ fun p hp => zip_keys r p hp, zip_list]

/-! ### the two calls -/
def rSortLen (K : PySem.W.Frag) : V → Hp → VK → Prop := fun x H Q => ∃ (a : Addr) (xs : List PySem.Str), x = V.ref a ∧ SqL K H a (xs.map V.str) ∧ (∀ z ∈ xs, z.length ≤ 1000000) ∧
  ∀ (ys : List PySem.Str) (p : Addr), ys.Perm xs → ys.Pairwise (fun x y => x.length ≤ y.length) → (∀ n : Nat, ys.filter (fun x => x.length == n) = xs.filter (fun x => x.length == n)) → H p = none → Q (.ref p) (upd H p (.lst (ys.map V.str)))
def rSortStr (K : PySem.W.Frag) : V → Hp → VK → Prop := fun x H Q => ∃ (a : Addr) (xs : List PySem.Str), x = V.ref a ∧ SqL K H a (xs.map V.str) ∧
  ∀ (ys : List PySem.Str) (p : Addr), ys.Perm xs → ys.Pairwise (fun x y => ¬ y.cps.toList < x.cps.toList) → H p = none → Q (.ref p) (upd H p (.lst (ys.map V.str)))
def tKey (r : V → Hp → VK → Prop) (te : TE) : TE := fun σ H Q => te σ H fun x H1 => r x H1 Q

/-- sorted(.., key=f), f a name of a built-in -/
def KeyR (X : Cx) (f : Value) (r : V → Hp → VK → Prop) : Prop :=
  ∀ (pins : List (Addr × Obj)) (s : Shared) (σ : L2.St) (H : Hp) (x : V) (u : Value) (Q : VK), Inv X pins σ H s → RelV x u → r x H Q → wpAny (model X.prog X.w) X.A (call (.builtin "sorted") [u] [(Str.ofString "key", f)]) (EP X pins σ Q) X.xe s

section
variable {X : Cx}
theorem pe_sortedBy {y : PySem.Str} {e : Expr} {te : TE} {p p2 kp pos : Pos} {f : Value} {r : V → Hp → VK → Prop} (hr : KeyR X f r) (hg : Gl X "sorted") (hm : X.mg "sorted" = none) (hg2 : Gl X y) (hm2 : X.mg y = none) (hv2 : bootBuiltins y = some f) (ha : PA X [e] (tCons te tNil))
    (hn2 : y ≠ "__name__" := by decide) (hd2 : (y == ("__debug__" : PySem.Str)) = false := by decide)
    (hb : backTo pos (starEach [e] X.env) = (false, eval e X.env) :: backTo pos (starEach [] X.env) := by rfl) :
    PE X (.Call (.Name "sorted" p) [e] [⟨some "key", .Name y p2, kp⟩] pos) (tKey r te) := by
  refine ⟨fun pins s σ H Q I h => ?_⟩
  refine wpAny_Call_Name_kw (ld_blt I hg hm (by decide +kernel : bootBuiltins "sorted" = some (.builtin "sorted")) ?_ (by decide) (by decide))
  refine PyProof.Rows.callWith_kw (thn (ha.run pos pins s σ H (fun vs H1 => match vs with | [x] => r x H1 Q | _ => False) I h) fun us s1 ⟨vs, H1, I1, r1, q1⟩ => ?_) hb (by rw [hb]; rfl) rfl rfl
  match vs, r1, q1 with
  | [x], r1, q1 =>
    obtain ⟨u, rfl, ru⟩ := r1.one
    show wpAny _ _ (evalAll [(do let v ← eval (.Name y p2) X.env; standAt pos; pure v)]) _ _ s1
    refine wpAny_evalAll_cons (wpAny_bind (ld_blt I1 hg2 hm2 hv2 (wpAny_bind (wpAny_standAt (wpAny_pure (wpAny_evalAll_nil ?_)))) hn2 hd2))
    exact hr pins s1 σ H1 x u Q I1 ru q1

theorem strs_key {κ : KeyKind} {kf : PySem.Str → κ.α} {T : Value → Prop} {f : Value} {pins : List (Addr × Obj)} {s : Shared} {σ : L2.St} {H : Hp} {a : Addr} {xs : List PySem.Str} {Q : VK} (hO : κ.OneLt) (I : Inv X pins σ H s) (hs : SqL X.K H a (xs.map V.str))
    (ht : ∀ x, Builtin.«list.sort» ⟨[.ref x], [(Str.ofString "key", f)]⟩ = ksk_tree x f false)
    (ask : ∀ z ∈ xs, ∀ (t : Tok) (s' : Shared), wpAny (model X.prog X.w) X.A.in1.in1 (call f [.str z t]) (fun k s2 => (∃ tk, s2 = { s' with toks := tk }) ∧ κ.keyOf k = some (kf z) ∧ T k) (fun _ _ => False) s')
    (hkk : ∀ ks : List Value, (∀ k ∈ ks, T k) → 2 ≤ ks.length → keyKind' ks.toArray = pure oneType')
    (q : ∀ (ys : List PySem.Str) (p : Addr), ys.Perm xs → ys.Pairwise (fun x y => κ.kle (kf x) (kf y)) → (∀ c, ys.filter (fun x => sameC κ c (kf x)) = xs.filter (fun x => sameC κ c (kf x))) → H p = none → Q (.ref p) (upd H p (.lst (ys.map V.str)))) :
    wpAny (model X.prog X.w) X.A (call (.builtin "sorted") [.ref a] [(Str.ofString "key", f)]) (EP X pins σ Q) X.xe s := by
  obtain ⟨its, rv, hl, hz⟩ := I.list hs
  have hS := rv.strs
  have zl := rv.length
  refine sorted_byKey (g := TextKey κ kf T) hO hl.isList (by rw [← zl]; exact hz) (ksk_s1 _ _) (fun _ => ksk_l1 _ _) ht (fun v hv s' => ?_) (fun v k ⟨x, t, _, e, _⟩ => ⟨_, e⟩) (fun ks r h2 => hkk ks (fun k hk => ?_) (by rw [keysFor_len r]; exact h2)) fun D h' tk c out kp hD hq b => ?_
  · obtain ⟨i, hi⟩ := List.mem_iff_getElem?.mp hv
    obtain ⟨y, t, e, hy⟩ := hS.item i v hi
    subst e
    exact wpAny_mono (ask y (List.mem_of_getElem? hy) t s') (fun k s2 ⟨h1, h2, h3⟩ => ⟨h1, y, t, rfl, h2, h3⟩) fun _ _ z => z
  · have go : ∀ {vs ks : List Value}, KeysFor (TextKey κ kf T) vs ks → ∀ k ∈ ks, T k := by
      intro vs ks r
      induction r with
      | nil => intro k hk; simp at hk
      | cons r t ih =>
        intro k hk
        rcases List.mem_cons.mp hk with z | z
        · rw [z]; exact r.choose_spec.choose_spec.2.2
        · exact ih k z
    exact go r k hk
  · obtain ⟨ys, y1, y2, y3, y4⟩ := byKey_strs hS b
    have yl : (ys.map V.str).length ≤ sizeLine := by rw [List.length_map, y2.length_eq, ← List.length_map (f := V.str)]; exact hz
    have hn : H D = none := I.hok.fresh hD
    exact ⟨.ref D, upd H D (.lst (ys.map V.str)), I.laid (t' := tk) kp hD ⟨yl, _, c, vals_of_strs y1, hq⟩, rfl, q ys D y2 y3 y4 hn⟩

theorem key_len : KeyR X (.builtin "len") (rSortLen X.K) := by
  intro pins s σ H x u Q I ru h
  obtain ⟨a, xs, rfl, hs, hb, q⟩ := h
  obtain rfl : u = Value.ref a := ru
  refine strs_key (κ := PyProof.Rows.intKind) (kf := fun x => (x.length : Int)) (T := fun k => ∃ n t, k = Value.int n t) intKind_oneLt I hs (fun x => ksk_t4 _ _) (fun z hz t s' => ?_) (fun ks hk h2 => ?_) fun ys p y2 y3 y4 hp => ?_
  · have lt := hb z hz
    exact PySem.P.len_str (by omega) ⟨⟨_, rfl⟩, rfl, _, _, rfl⟩
  · obtain ⟨kz, hI⟩ : ∃ kz, IntsAre ks kz := by
      clear h2
      induction ks with
      | nil => exact ⟨[], .nil⟩
      | cons k ks ih =>
        obtain ⟨n, t, rfl⟩ := hk k List.mem_cons_self
        obtain ⟨kz, r⟩ := ih fun j hj => hk j (List.mem_cons_of_mem _ hj)
        exact ⟨n :: kz, .cons n t r⟩
    exact ksk_kind (keys := ks.toArray) (kz := kz) (by simpa using hI) (by simpa using h2)
  · refine q ys p y2 (y3.imp fun {x y} hxy => ?_) (fun n => ?_) hp
    · have z : decide ((y.length : Int) < (x.length : Int)) = false := hxy
      have z2 := of_decide_eq_false z
      omega
    · have z := y4 (n : Int)
      have e : ∀ x : PySem.Str, sameC PyProof.Rows.intKind (n : Int) (x.length : Int) = (x.length == n) := fun x => by
        show (!decide ((x.length : Int) < n) && !decide ((n : Int) < (x.length : Int))) = _
        by_cases h1 : x.length = n
        · rw [h1]; simp
        · rw [show (x.length == n) = false by simpa using h1]
          by_cases h2 : (x.length : Int) < n
          · simp [h2]
          · have h3 : (n : Int) < (x.length : Int) := by omega
            simp [h3]
      simp only [e] at z
      exact z

theorem key_str : KeyR X (.type "str") (rSortStr X.K) := by
  intro pins s σ H x u Q I ru h
  obtain ⟨a, xs, rfl, hs, q⟩ := h
  obtain rfl : u = Value.ref a := ru
  refine strs_key (κ := PyProof.Rows.strKind) (kf := fun x => x.cps.toList) (T := fun k => ∃ z t, k = Value.str z t) strKind_oneLt I hs (fun x => rfl) (fun z hz t s' => ?_) (fun ks hk h2 => ?_) fun ys p y2 y3 y4 hp => ?_
  · exact PySem.P.str_of_str ⟨⟨s'.toks, rfl⟩, rfl, _, _, rfl⟩
  · obtain ⟨kz, hI⟩ : ∃ kz, StrsAre ks kz := ⟨_, strsAre_map ks hk⟩
    match ks, h2, hI with
    | k1 :: k2 :: r, _, hI => exact keyKind_strs hI
  · refine q ys p y2 (y3.imp fun {x y} hxy => ?_) hp
    have z : decide (y.cps.toList < x.cps.toList) = false := hxy
    exact of_decide_eq_false z
end
end TS
end
/-! TC1 -/
set_option linter.all false
set_option maxRecDepth 100000
set_option maxHeartbeats 4000000
noncomputable section
namespace TS
open PySem PySem.Spec PyProof.Rows L2

/-! ### one turn of any comprehension -/
/-- the last clause's turn: an item is laid down by «lay» -/
def turnL (t i : Expr) (ifs : List Expr) (lay : Sem Unit) (nxt : Code) (it : Value) (env : Env) : Sem PySem.Fin :=
  standAt i.pos >>= fun _ => pyNext it >>= fun r => match r with
    | none => pure (.done .next)
    | some v => letOwnedTupleGo t it v >>= fun _ => assign t env v >>= fun _ => testsOf ifs env >>= fun ok =>
      if ok = true then lay >>= fun _ => again nxt else again nxt
/-- the first clause's turn, a second one behind it -/
def turnO (t i : Expr) (ifs : List Expr) (i1 e : Expr) (acc : Value) (nxt : Code) (it : Value) (env : Env) : Sem PySem.Fin :=
  standAt i.pos >>= fun _ => pyNext it >>= fun r => match r with
    | none => pure (.done .next)
    | some v => letOwnedTupleGo t it v >>= fun _ => assign t env v >>= fun _ => testsOf ifs env >>= fun ok =>
      if ok = true then eval i1 env >>= fun x => standAt i1.pos >>= fun _ => foldedSetIterable i1 env x >>= fun x => holding [x] (pyIter x) >>= fun it1 => runOwn (.compStart e 1 it1 acc env) env >>= fun _ => again nxt
      else again nxt

section
variable {P : Program} {w : World} {A : Around} {R : Result → Shared → Prop} {s : Shared} {env : Env} {t i : Expr} {ifs : List Expr} {it acc : Value}

theorem loop_of {c : Code} {lay : Sem Unit} (hq : c.quiet = true) (hA : A.under c = A) (hden : (model P w).den c = (turnL t i ifs lay c it env).onRaise (fun x => noteFrame x env >>= fun _ => theTreesLotGoes x)) (J : Nat → Shared → Prop)
    (turn : ∀ n s, J n s → wpAny (model P w) A (pyNext it) (fun r s1 => match r with
      | none => R (.ok .next) s1
      | some v => wpAny (model P w) A (letOwnedTupleGo t it v) (fun _ s2 => wpAny (model P w) A (assign t env v) (fun _ s3 => wpAny (model P w) A (testsOf ifs env) (fun ok s4 =>
          if ok = true then wpAny (model P w) A lay (fun _ s5 => ∃ m, m < n ∧ J m s5) (notedBy (model P w) A env fun e s' => R (.error e) s') s4
          else ∃ m, m < n ∧ J m s4) (notedBy (model P w) A env fun e s' => R (.error e) s') s3) (notedBy (model P w) A env fun e s' => R (.error e) s') s2) (notedBy (model P w) A env fun e s' => R (.error e) s') s1)
      (notedBy (model P w) A env fun e s' => R (.error e) s') s) (n : Nat) (h : J n s) : codeAny (model P w) A c R s := by
  refine codeAny_loop hq J (fun n s hJ => ?_) n h
  rw [hA, hden]
  refine wpAny_noted ?_
  unfold turnL
  refine wpAny_bind (wpAny_standAt (wpAny_bind (wpAny_mono (turn n s hJ) (fun r s1 h1 => ?_) fun _ _ z => z)))
  cases r with
  | none => exact wpAny_pure h1
  | some v =>
    refine wpAny_bind (wpAny_mono h1 (fun _ s2 h2 => wpAny_bind (wpAny_mono h2 (fun _ s3 h3 => wpAny_bind (wpAny_mono h3 (fun ok s4 h4 => ?_) fun _ _ z => z)) fun _ _ z => z)) fun _ _ z => z)
    cases ok with
    | false => exact wpAny_pure ⟨rfl, h4⟩
    | true => exact wpAny_bind (wpAny_mono h4 (fun _ s5 h5 => wpAny_pure ⟨rfl, h5⟩) fun _ _ z => z)
end

section
variable {P : Program} {w : World} {A : Around} {it acc : Value} {env : Env} {elt kx vx t i t1 i1 : Expr} {ifs ifs1 : List Expr} {scope : Scope} {pos : Pos}
/-! how each form lays its items -/
def layList (elt : Expr) (acc : Value) (env : Env) : Sem Unit := eval elt env >>= fun x => call (.builtin "list.append") [acc, x] >>= fun _ => pure ()
def laySet (elt : Expr) (acc : Value) (env : Env) : Sem Unit := eval elt env >>= fun x => standAt elt.pos >>= fun _ => call (.builtin "set.add") [acc, x] >>= fun _ => pure ()

theorem den_list1 : (model P w).den (.compLoop (.ListComp elt [⟨t, i, ifs, 0⟩] scope pos) 0 it acc env) =
    (turnL t i ifs (layList elt acc env) (.compLoop (.ListComp elt [⟨t, i, ifs, 0⟩] scope pos) 0 it acc env) it env).onRaise (fun x => noteFrame x env >>= fun _ => theTreesLotGoes x) := rfl
theorem den_set1 : (model P w).den (.compLoop (.SetComp elt [⟨t, i, ifs, 0⟩] scope pos) 0 it acc env) =
    (turnL t i ifs (laySet elt acc env) (.compLoop (.SetComp elt [⟨t, i, ifs, 0⟩] scope pos) 0 it acc env) it env).onRaise (fun x => noteFrame x env >>= fun _ => theTreesLotGoes x) := rfl
theorem den_list2 : (model P w).den (.compLoop (.ListComp elt [⟨t, i, ifs, 0⟩, ⟨t1, i1, ifs1, 0⟩] scope pos) 1 it acc env) =
    (turnL t1 i1 ifs1 (layList elt acc env) (.compLoop (.ListComp elt [⟨t, i, ifs, 0⟩, ⟨t1, i1, ifs1, 0⟩] scope pos) 1 it acc env) it env).onRaise (fun x => noteFrame x env >>= fun _ => theTreesLotGoes x) := rfl
theorem den_set2 : (model P w).den (.compLoop (.SetComp elt [⟨t, i, ifs, 0⟩, ⟨t1, i1, ifs1, 0⟩] scope pos) 1 it acc env) =
    (turnL t1 i1 ifs1 (laySet elt acc env) (.compLoop (.SetComp elt [⟨t, i, ifs, 0⟩, ⟨t1, i1, ifs1, 0⟩] scope pos) 1 it acc env) it env).onRaise (fun x => noteFrame x env >>= fun _ => theTreesLotGoes x) := rfl
theorem den_list2o : (model P w).den (.compLoop (.ListComp elt [⟨t, i, ifs, 0⟩, ⟨t1, i1, ifs1, 0⟩] scope pos) 0 it acc env) =
    (turnO t i ifs i1 (.ListComp elt [⟨t, i, ifs, 0⟩, ⟨t1, i1, ifs1, 0⟩] scope pos) acc (.compLoop (.ListComp elt [⟨t, i, ifs, 0⟩, ⟨t1, i1, ifs1, 0⟩] scope pos) 0 it acc env) it env).onRaise (fun x => noteFrame x env >>= fun _ => theTreesLotGoes x) := rfl
theorem den_set2o : (model P w).den (.compLoop (.SetComp elt [⟨t, i, ifs, 0⟩, ⟨t1, i1, ifs1, 0⟩] scope pos) 0 it acc env) =
    (turnO t i ifs i1 (.SetComp elt [⟨t, i, ifs, 0⟩, ⟨t1, i1, ifs1, 0⟩] scope pos) acc (.compLoop (.SetComp elt [⟨t, i, ifs, 0⟩, ⟨t1, i1, ifs1, 0⟩] scope pos) 0 it acc env) it env).onRaise (fun x => noteFrame x env >>= fun _ => theTreesLotGoes x) := rfl
end

section
variable {P : Program} {w : World} {A : Around} {R : Result → Shared → Prop} {s : Shared} {env : Env} {t i i1 e : Expr} {ifs : List Expr} {it acc : Value}
theorem loop_ofO {c : Code} (hq : c.quiet = true) (hA : A.under c = A) (hden : (model P w).den c = (turnO t i ifs i1 e acc c it env).onRaise (fun x => noteFrame x env >>= fun _ => theTreesLotGoes x)) (hs : ∀ x, foldedSetIterable i1 env x = pure x) (J : Nat → Shared → Prop)
    (turn : ∀ n s, J n s → wpAny (model P w) A (pyNext it) (fun r s1 => match r with
      | none => R (.ok .next) s1
      | some v => wpAny (model P w) A (letOwnedTupleGo t it v) (fun _ s2 => wpAny (model P w) A (assign t env v) (fun _ s3 => wpAny (model P w) A (testsOf ifs env) (fun ok s4 =>
          if ok = true then wpAny (model P w) A (eval i1 env) (fun x s5 => wpAny (model P w) A (pyIter x) (fun it1 s6 => codeAny (model P w) A (.compStart e 1 it1 acc env) (fun r s' => match r with
              | .ok _ => ∃ m, m < n ∧ J m s'
              | .error _ => False) s6) (notedBy (model P w) A env fun e s' => R (.error e) s') s5) (notedBy (model P w) A env fun e s' => R (.error e) s') s4
          else ∃ m, m < n ∧ J m s4) (notedBy (model P w) A env fun e s' => R (.error e) s') s3) (notedBy (model P w) A env fun e s' => R (.error e) s') s2) (notedBy (model P w) A env fun e s' => R (.error e) s') s1)
      (notedBy (model P w) A env fun e s' => R (.error e) s') s) (n : Nat) (h : J n s) : codeAny (model P w) A c R s := by
  refine codeAny_loop hq J (fun n s hJ => ?_) n h
  rw [hA, hden]
  refine wpAny_noted ?_
  unfold turnO
  refine wpAny_bind (wpAny_standAt (wpAny_bind (wpAny_mono (turn n s hJ) (fun r s1 h1 => ?_) fun _ _ z => z)))
  cases r with
  | none => exact wpAny_pure h1
  | some v =>
    refine wpAny_bind (wpAny_mono h1 (fun _ s2 h2 => wpAny_bind (wpAny_mono h2 (fun _ s3 h3 => wpAny_bind (wpAny_mono h3 (fun ok s4 h4 => ?_) fun _ _ z => z)) fun _ _ z => z)) fun _ _ z => z)
    cases ok with
    | false => exact wpAny_pure ⟨rfl, h4⟩
    | true =>
      refine wpAny_bind (wpAny_mono h4 (fun x s5 h5 => wpAny_bind (wpAny_standAt (wpAny_bind (wpAny_of_eq (hs x) (wpAny_bind (wpAny_holding (wpAny_mono h5 (fun it1 s6 h6 => ?_) fun _ _ z => z))))))) fun _ _ z => z)
      refine wpAny_bind (wpAny_runOwn ?_)
      rw [Around.mark_none]
      refine codeAny_mono h6 fun r s' hr => ?_
      cases r with
      | ok f => exact wpAny_pure ⟨rfl, hr⟩
      | error x => exact hr.elim
end
end TS
end
/-! TC2 -/
set_option linter.all false
set_option maxRecDepth 100000
set_option maxHeartbeats 4000000
noncomputable section
namespace TS
open PySem PySem.Spec PyProof.Rows L2

/-! ### an exception leaves a comprehension's block -/
section
variable {X : Cx} {pins : List (Addr × Obj)} {σ : L2.St} {H : Hp} {s s' : Shared} {E : XK} {u : Value}

/-- what a call's exception leaves: the ground B, a state sI of ours without the exception's own objects -/
theorem air_of_call (I : Inv X pins σ H s) (c : L2.CX X.prog X.w X.stack H s E u s') :
    ∃ (a : Addr) (B : Heap) (sI : Shared) (H' : Hp) (cls : Value) (d : Option Addr), u = .ref a ∧ Inv X pins σ H' sI ∧ (∀ b o, sI.heap.get? b = some o → b ∉ frs X.stack → B.get? b = some o) ∧ sI.heap.UpToSlots s'.heap ∧
      HandSPX.FlyingZ B X.stack a (Zc cls d) s'.heap ∧ H' a = none ∧ s'.os = sI.os ∧ AllBare s'.gens ∧ E cls d H' ∧
      (∀ b o, s.heap.get? b = some o → H b = none → b ∉ frs X.stack → B.get? b = some o) ∧ ∀ b o, s.heap.get? b = some o → H b = none → H' b = none := by
  obtain ⟨a, B, H', cls, d, e, fl, hok, ub, na, os, ag, hE⟩ := c
  obtain ⟨G, yes, no⟩ := restrict s'.heap fun b => decide (b ∈ frs X.stack) || (B.get? b).isSome
  have onB : ∀ {b o}, B.get? b = some o → G.get? b = some o := fun {b o} q => (yes b (by simp [q])).trans (fl.1 b o q)
  have onF : ∀ {b}, b ∈ frs X.stack → G.get? b = s'.heap.get? b := fun {b} q => yes b (by simp [q])
  have back : ∀ {b o}, G.get? b = some o → s'.heap.get? b = some o ∧ (b ∉ frs X.stack → B.get? b = some o) := by
    intro b o q
    by_cases hb : b ∈ frs X.stack
    · exact ⟨(onF hb) ▸ q, fun z => absurd hb z⟩
    · cases hB : B.get? b with
      | none => rw [no b (by simp [hb, hB])] at q; cases q
      | some o' =>
        have z := onB hB
        rw [q] at z; cases z
        exact ⟨fl.1 b _ hB, fun _ => rfl⟩
  refine ⟨a, B, { s with heap := G, gens := s'.gens, drawn := s'.drawn, toks := s'.toks }, H', cls, d, e, ?_, fun b o q hb => (back q).2 hb, Heap.UpToSlots.of_keeps fun b o q => (back q).1, fl, na, os, ag, hE, ub.keep, ub.free⟩
  refine I.call (ch := []) ⟨fun b o q n hb _ => onB (ub.keep b o q n hb), ?_, fun b o q n _ => ub.free b o q n, ?_, ub.tups, ub.frzs, ub.tbls⟩ (hok.kept fun b o q => onB q) ag (fun _ z => nomatch z)
  · intro b o q n hb _
    obtain ⟨sl, z⟩ := ub.slot b o q hb
    exact ⟨sl, (onF hb).trans z⟩
  · intro b o q _
    by_cases hb : b ∈ frs X.stack
    · obtain ⟨sl, z⟩ := ub.slot b o q hb
      exact ⟨_, (onF hb).trans z⟩
    · obtain ⟨o', z⟩ := ub.there b o q hb
      exact ⟨o', onB z⟩

theorem tracedZ_but {h h' B B' : Heap} {e C : Addr} {Z : Obj → Prop} {fl : Value} {m : Str → Option Value} (t : HandSPX.TracedZ h B e Z fl) (hn : h.Ns C m) (hs : Heap.SameBut C h h') (hB : ∀ b, B.get? b = none → B'.get? b = none) : HandSPX.TracedZ h' B' e Z fl := by
  obtain ⟨oe, vs, T, oT, ts, he, hz, hd, h1, hT0, hTe, hT, hdT, h3⟩ := t
  obtain ⟨oC, es, ep, hC, hdC, _⟩ := hn
  have ne : ∀ {b o vs}, h.get? b = some o → o.data = .fields vs → b ≠ C := fun {b o vs} q hv z => by
    rw [z, hC] at q; cases q; rw [hdC] at hv; cases hv
  exact ⟨oe, vs, T, oT, ts, (hs.2 e (ne he hd)).trans he, hz, hd, h1, hB T hT0, hTe, (hs.2 T (ne hT hdT)).trans hT, hdT, h3⟩

/-- out of a call in a comprehension's block: the frame is noted, the block's names go, the exception goes on -/
theorem comp_fails {W : WX} {ce : Env} {m : Str → Option Value} (hst : X.stack = X.env :: X.outer) (hf : X.env.frame = some X.env.locals) (hcf : ce.frame = X.env.frame) (tk : Takes X W) (I : Inv X pins σ H s)
    (hn : s.heap.Ns ce.locals m) (fp : FpOk X pins H ce.locals) (hW : ∀ cls d H', E cls d H' → W cls d σ H') (c : L2.CX X.prog X.w X.stack H s E u s') :
    notedBy (model X.prog X.w) X.A ce (CompFails (model X.prog X.w) X.A X.xe ce) u s' := by
  obtain ⟨a, B, sI, H', cls, d, rfl, I1, nb, up, fl, na, os, ag, hE, kp, fr⟩ := air_of_call I c
  obtain ⟨f0, f1, f2, f3, f4, f5⟩ := fp
  generalize hC : ce.locals = C at hn f0 f1 f2 f3 f4 f5
  have hCs : C ∉ frs X.stack := fun z => by
    rcases List.mem_cons.mp (I.stkSub C z) with q | q
    · exact f1 q
    · exact f2 q
  obtain ⟨oC, es, ep, gC, dC, kC⟩ := hn
  have BC := kp C oC gC f0 hCs
  have nC := fr C oC gC f0
  have hfr : X.A.frames = some (X.env :: X.outer) := by rw [I.ok.frames, hst]
  show wpAny _ _ (noteFrame _ ce) _ _ _
  rw [noteFrame_env _ hcf]
  rw [hst] at fl
  refine HandSPX.looks_onZ Zc.steady hfr hf fl fun h1 hh up1 => ?_
  have n1 : h1.Ns C m := ⟨oC, es, ep, hh.1 C oC BC, dC, kC⟩
  refine ⟨m, by rw [hC]; exact n1, fun h2 m2 n2 sb => ?_⟩
  rw [hC] at n2 sb
  generalize hB' : PySem.W.hideAll B [C] = B'
  have B'of : ∀ {b o}, B'.get? b = some o → b ≠ C ∧ B.get? b = some o := fun {b o} q => by
    rw [← hB'] at q
    refine ⟨fun z => ?_, PySem.W.of_hideAll _ q⟩
    rw [z, PySem.W.hideAll_none [C] (by simp)] at q; cases q
  have toB' : ∀ {b o}, B.get? b = some o → b ≠ C → B'.get? b = some o := fun {b o} q z => by
    rw [← hB']; exact PySem.W.hideAll_get _ q (by simpa using z)
  have noB' : ∀ b, B.get? b = none → B'.get? b = none := fun b q => by
    cases z : B'.get? b with
    | none => rfl
    | some o => rw [(B'of z).2] at q; cases q
  have hd2 : HandSPX.HeldZ B' (X.env :: X.outer) a (Zc cls d) X.env.locals h2 := by
    obtain ⟨x1, x2, x3, x4⟩ := hh
    have ff : h2.FunFrames B (X.env :: X.outer) := Heap.FunFrames.sameBut sb n2 x3
    refine ⟨fun b o q => ?_, noB' a x2, funFrames_none ff fun b hb => ?_, tracedZ_but x4 n1 sb noB'⟩
    · exact (sb.2 b (B'of q).1).trans (x1 b o (B'of q).2)
    · exact noB' b (ff.mem hb).1
  obtain ⟨oe, vs, T, oT, ts, he, hz, hd, h1', r⟩ := hd2.2.2.2
  unfold PySem.passOn
  refine wpAny_bind (wpAny_field he hd h1' ?_)
  rw [if_neg (show ¬ ((Value.ref T == Value.none) = true) from by simp)]
  rw [hcf, hf]
  refine wpAny_bind (HandSPX.setFlight_onZ hd2 fun h3 hd3 up3 => wpAny_throw ?_)
  refine tk _ _ ?_
  have I2 : Inv X pins σ H' { sI with heap := PySem.W.hideAll sI.heap [C], toks := sI.toks } := I1.turned (it := C) (t' := sI.toks) (fun b o z q => PySem.W.hideAll_get _ q (by simpa using z)) nC f1 f3 f4 f5
  have hid : ∀ {b o}, (PySem.W.hideAll sI.heap [C]).get? b = some o → b ≠ C ∧ sI.heap.get? b = some o := fun {b o} q => by
    refine ⟨fun z => ?_, PySem.W.of_hideAll _ q⟩
    rw [z, PySem.W.hideAll_none [C] (by simp)] at q; cases q
  refine ⟨a, B', _, pins, σ, H', cls, d, rfl, I2, fun b o q hb => ?_, ?_, ?_, na, os, ag, hW _ _ _ hE⟩
  · have z := hid q
    exact toB' (nb b o z.2 hb) z.1
  · intro b o q hv
    have z := hid q
    obtain ⟨s1, e1⟩ := up b o z.2 hv
    obtain ⟨s2, e2⟩ := up1 b _ e1 hv
    obtain ⟨s3, e3⟩ := up3 b _ ((sb.2 b z.1).trans e2) hv
    exact ⟨s3, e3⟩
  · rw [hst]
    exact .inr (.inr hd3)
end
end TS
end
/-! TC3 -/
set_option linter.all false
set_option maxRecDepth 100000
set_option maxHeartbeats 4000000
noncomputable section
namespace TS
open PySem PySem.Spec PyProof.Rows L2 PySem.Froz

/-! ### what a comprehension gathers: a list, a set of texts -/
inductive Kd where
  | lst | set
def Kd.ini (P : Program) (w : World) : Kd → Addr → HO
  | .lst, _ => .lst []
  | .set, D => SetS P w D []
/-- what it asks that y is gathered at D -/
def Kd.add (P : Program) (w : World) : Kd → Addr → Hp → V → (Hp → Prop) → Prop
  | .lst, D, H, y, N => ∃ acc, H D = some (.lst acc) ∧ acc.length < sizeLine ∧ N (upd H D (.lst (acc ++ [y])))
  | .set, D, H, y, N => ∃ l k, y = .str k ∧ H D = some (SetS P w D l) ∧ l.length + 1 < scanBound ∧ N (upd H D (SetS P w D (if k ∈ l then l else k :: l)))
def Kd.ex : Kd → Expr → List Comprehension → Scope → Pos → Expr
  | .lst, e, g, sc, p => .ListComp e g sc p
  | .set, e, g, sc, p => .SetComp e g sc p
def Kd.lay : Kd → Expr → Value → Env → Sem Unit
  | .lst => layList
  | .set => laySet
def Kd.new : Kd → Sem Value
  | .lst => newList []
  | .set => newSet (.type "set")
def Kd.obj (w : World) : Kd → Obj
  | .lst => { cls := .type "list", data := .seq ([] : List Value).toArray }
  | .set => sObj "set" (fresh w)

section
variable {P : Program} {w : World}
theorem Kd.eval {kd : Kd} {elt : Expr} {g : List Comprehension} {scope : Scope} {pos : Pos} {env : Env} : PySem.eval (kd.ex elt g scope pos) env = comprehension (kd.ex elt g scope pos) scope env (firstIterPos g pos) kd.new (firstAsync g) (firstIter g env) := by
  cases kd <;> rfl
theorem Kd.new_ok {kd : Kd} {A : Around} {E : Value → Shared → Prop} {s : Shared} {Q : Value → Shared → Prop} (h : Q (.ref s.heap.objs.size) { s with heap := s.heap.push (kd.obj w) }) : wpAny (model P w) A kd.new Q E s := by
  cases kd with
  | lst => exact wpAny_newObj_type h (by show 0 ≤ sizeLine; decide)
  | set => exact PpSet.newSet_ok h
theorem Kd.ini_ok {kd : Kd} {H : Hp} {h : Heap} {D : Addr} (hD : h.get? D = some (kd.obj w)) : ObjOk P w H h D (kd.ini P w D) := by
  cases kd with
  | lst => exact ⟨Nat.zero_le _, [], 0, .nil, hD⟩
  | set => exact setS_new hD (fresh_ok P w) (fresh_walk w)
theorem Kd.noFreed {kd : Kd} : (kd.obj w).isFreed = false := by cases kd <;> rfl
end

theorem set_add_ok {Y : Cx} {pins : List (Addr × Obj)} {σ : L2.St} {H : Hp} {s : Shared} {D : Addr} {l : List PySem.Str} {k : PySem.Str} {tk : Tok} {E : Value → Shared → Prop} {N : Hp → Prop} (I : Inv Y pins σ H s) (hD : H D = some (SetS Y.prog Y.w D l)) (hb : l.length + 1 < scanBound)
    (h : N (upd H D (SetS Y.prog Y.w D (if k ∈ l then l else k :: l)))) : wpAny (model Y.prog Y.w) Y.A (call (.builtin "set.add") [.ref D, .str k tk]) (fun _ s' => ∃ H', Inv Y pins σ H' s' ∧ N H') E s := by
  obtain ⟨Ds, hDs, _⟩ := setS_get I hD
  refine wpAny_call_entry F.slot_set_add ⟨_, hDs, rfl⟩ F.entry_set_add ?_ (F.args_set_add_2 _ _)
  unfold Builtin.«set.add» Builtin.Frozenset.oneOther
  simp only [List.isEmpty_nil, bind_assoc]
  unfold Builtin.Frozenset.addrOf setAdd
  refine wpAny_bind (wpAny_pure ?_)
  try dsimp only
  refine wpAny_bind (wpAny_pure ?_)
  try dsimp only
  refine wpAny_bind (wpAny_holding (wpAny_bind (wpAny_pyHash_str ?_)))
  refine addS (I.tok _) hD hb fun b s' I' => ?_
  show wpAny _ _ (ret Value.none) _ _ _
  exact wpAny_pure ⟨_, rfl, _, I', h⟩

theorem lay_ok (kd : Kd) {Y : Cx} {pins : List (Addr × Obj)} {σ : L2.St} {H : Hp} {s : Shared} {D : Addr} {elt : Expr} {te : TE} {N : Hp → Prop} (he : PE Y elt te) (I : Inv Y pins σ H s) (h : te σ H fun y H1 => kd.add Y.prog Y.w D H1 y N) :
    wpAny (model Y.prog Y.w) Y.A (kd.lay elt (.ref D) Y.env) (fun _ s' => ∃ H', Inv Y pins σ H' s' ∧ N H') Y.xe s := by
  cases kd with
  | lst =>
    refine wpAny_bind (thn (he.run _ s σ H _ I h) fun z s1 ⟨y, H1, I1, r1, acc, hD, hz, nx⟩ => ?_)
    refine wpAny_bind (app_ok I1 hD hz r1 fun s2 I2 => wpAny_pure ⟨_, I2, nx⟩)
  | set =>
    refine wpAny_bind (thn (he.run _ s σ H _ I h) fun z s1 ⟨y, H1, I1, r1, l, k, ey, hD, hz, nx⟩ => wpAny_bind (wpAny_standAt ?_))
    subst ey
    obtain ⟨tk, rfl⟩ := r1
    refine wpAny_bind (wpAny_mono (set_add_ok (E := Y.xe) I1 hD hz nx) (fun _ s2 q => wpAny_pure q) fun _ _ z => z)

/-! ### the block's context -/
abbrev bx (X : Cx) (xb : Env → Value → Shared → Prop) (s : Shared) (H : Hp) (scope : Scope) (ce : Env) (fp : List Addr) : Cx := (X.blk s H scope ce fp).wish (xb ce)
abbrev xfail (X : Cx) : Env → Value → Shared → Prop := fun ce => notedBy (model X.prog X.w) X.A ce (CompFails (model X.prog X.w) X.A X.xe ce)
abbrev xnone : Env → Value → Shared → Prop := fun _ _ _ => False

section
variable {X : Cx} {pins : List (Addr × Obj)} {σ σ' : L2.St} {H0 H : Hp} {s0 s : Shared} {scope : Scope} {cl : List (PySem.Str × Addr)} {fp : List Addr}

/-- from the block's view to the def's -/
theorem blk_back {xb : Env → Value → Shared → Prop} {ce : Env} {pn : List (Addr × Obj)} (I0 : Inv X pins σ H0 s0) (hfp : ∀ b ∈ fp, FpOk X pins H0 b ∧ b < s0.heap.objs.size) (I : Inv (bx X xb s0 H0 scope ce fp) pn σ' H s) : Inv X pins σ H s :=
  I0.call' (ch := fp) I.os I.base I.hok I.bare fun b hb => ⟨(hfp b hb).1.2.2.2.1, (hfp b hb).1.2.1, (hfp b hb).1.2.2.2.2.1, (hfp b hb).1.2.2.2.2.2⟩

/-- what a call in the block lets out is taken -/
theorem blk_passes {Eo : XK} (hst : X.stack = X.env :: X.outer) (hf : X.env.frame = some X.env.locals) (tk : Takes X (fun cls d _ H => Eo cls d H)) (I0 : Inv X pins σ H0 s0) (hfp : ∀ b ∈ fp, FpOk X pins H0 b ∧ b < s0.heap.objs.size) :
    Passes (L2.CX X.prog X.w) (bx X (xfail X) s0 H0 scope (compEnvC scope cl s0.heap.objs.size X.env) fp) Eo := by
  intro pn σ1 H1 s1 u s' I1 c
  obtain ⟨m, hn, _⟩ := I1.loc
  exact comp_fails hst hf rfl tk (blk_back I0 hfp I1) hn (I0.fpOk (Nat.le_refl _) I1.free) (fun _ _ _ z => z) c
end

/-! ### one clause -/
def tKc (P : Program) (w : World) (kd : Kd) (wi : TI) (g : TG) (tt : TT) (te : TE) (vs : List Nat) : TE := fun σ H Q => wi σ H fun J H1 => ∀ D, H1 D = none → ∃ W : Nat → Nat → Hp → Prop, (∃ m, W 0 m (upd H1 D (kd.ini P w D))) ∧ ∀ i m H, W i m H →
  (J.stop i H ∧ Q (.ref D) H) ∨ (J.go i H ∧ ∃ Nx : Hp → Prop, (∀ H', Nx H' → ∃ m', m' < m ∧ W (i + 1) m' H') ∧ ∀ x H', J.yld i H x H' → g x (wipe σ vs) H' fun σ2 H2 => wipe σ2 vs = wipe σ vs ∧ tt σ2 H2 fun b H3 =>
    if b = true then te σ2 H3 fun y H4 => kd.add P w D H4 y Nx else Nx H3)

section
variable {X : Cx} {kd : Kd} {elt tg iter tg1 iter1 : Expr} {ifs ifs1 : List Expr} {scope : Scope} {own : List (PySem.Str × Nat)} {vs1 : List Nat} {pos : Pos} {wi wi1 : TI} {g g1 : TG} {tt tt1 : TT} {te : TE} {xb : Env → Value → Shared → Prop} {Pz : Cx → Prop}

theorem kc_start {acc : Value} {g : Comprehension} {gs : List Comprehension} {P : Program} {w : World} {A : Around} {R : Result → Shared → Prop} {s : Shared} {it : Value} {env : Env}
    (hg : (⟨g.target, g.iter, g.ifs, 0⟩ : Comprehension) = g) (h0 : codeAny (model P w) A (.compLoop (kd.ex elt (g :: gs) scope pos) 0 it acc env) R s)
    (h : wpAny (model P w) A (pyIter it) (fun it' s' => codeAny (model P w) A (.compLoop (kd.ex elt (g :: gs) scope pos) 0 it' acc env) R s') (notedBy (model P w) A env fun x s' => R (.error x) s') s) :
    codeAny (model P w) A (.compStart (kd.ex elt (g :: gs) scope pos) 0 it acc env) R s := by
  rw [← hg] at h0 h ⊢
  cases kd with
  | lst => exact codeAny_compStart_list h0 h
  | set => exact PpSet.codeAny_compStart_set h0 h

theorem kc_den1 {P : Program} {w : World} {t i : Expr} {it acc : Value} {env : Env} : (model P w).den (.compLoop (kd.ex elt [⟨t, i, ifs, 0⟩] scope pos) 0 it acc env) =
    (turnL t i ifs (kd.lay elt acc env) (.compLoop (kd.ex elt [⟨t, i, ifs, 0⟩] scope pos) 0 it acc env) it env).onRaise (fun x => noteFrame x env >>= fun _ => theTreesLotGoes x) := by
  cases kd
  · exact den_list1
  · exact den_set1
end
end TS
end
/-! TC4 -/
set_option linter.all false
set_option maxRecDepth 100000
set_option maxHeartbeats 4000000
noncomputable section
namespace TS
open PySem PySem.Spec PyProof.Rows L2 PySem.Froz

section
variable {X : Cx} {kd : Kd} {elt tg iter tg1 iter1 : Expr} {ifs ifs1 : List Expr} {scope : Scope} {own : List (PySem.Str × Nat)} {vs1 : List Nat} {pos : Pos} {wi wi1 : TI} {g g1 : TG} {tt tt1 : TT} {te : TE} {xb : Env → Value → Shared → Prop}

/-- the block's end: its names go, the gathered thing is the value -/
theorem kc_end {pins pn : List (Addr × Obj)} {σ σ' : L2.St} {H0 H' : Hp} {s0 s' : Shared} {cl : List (PySem.Str × Addr)} {fp : List Addr} {Q : VK} {D : Addr} (I0 : Inv X pins σ H0 s0) (hfp : ∀ b ∈ fp, FpOk X pins H0 b ∧ b < s0.heap.objs.size)
    (I : Inv (bx X xb s0 H0 scope (compEnvC scope cl s0.heap.objs.size X.env) fp) pn σ' H' s') (q : Q (.ref D) H') :
    compEnds (model X.prog X.w) X.A X.xe none (EP X pins σ Q) (.ref D) (compEnvC scope cl s0.heap.objs.size X.env) (.ok .next) s' := by
  have IX := blk_back I0 hfp I
  obtain ⟨m, hn, _⟩ := I.loc
  obtain ⟨f0, f1, f2, f3, f4, f5⟩ := I0.fpOk (H' := H') (Nat.le_refl _) I.free
  exact ⟨m, hn, fun h2 sb => ⟨.ref D, H', IX.turned (t' := s'.toks) (fun b o hb e => (sb.2 b hb).trans e) f0 f1 f3 f4 f5, rfl, q⟩⟩

/-- up to the first turn -/
theorem kc_open {gs : List Comprehension} {pins : List (Addr × Obj)} {σ : L2.St} {H : Hp} {s : Shared} {Q : VK} {R : It → Hp → Prop} (hN : X.N.Nodup) (I : Inv X pins σ H s) (hi : PI X tg iter wi) (ok : BlkOk X.N X.env.scope scope own) (hs : ∀ x, foldedSetIterable iter X.env x = pure x)
    (h : wi σ H R)
    (go : ∀ (it D : Addr) (fp : List Addr) (tn : Nat → Heap → Prop) (J : It) (H2 : Hp) (s3 s4 : Shared) (cl : List (PySem.Str × Addr)), H2 D = none → R J H2 → Turn X.prog X.w X.K tg J fp it tn → Inv X pins σ (upd H2 D (kd.ini X.prog X.w D)) s3 →
      (∀ b ∈ fp, FpOk X pins (upd H2 D (kd.ini X.prog X.w D)) b ∧ b < s3.heap.objs.size) → tn 0 s4.heap → Inv (X.blk s3 (upd H2 D (kd.ini X.prog X.w D)) scope (compEnvC scope cl s3.heap.objs.size X.env) fp) [] (wipe σ (own.map (·.2))) (upd H2 D (kd.ini X.prog X.w D)) s4 →
      codeAny (model X.prog X.w) X.A (.compLoop (kd.ex elt (⟨tg, iter, ifs, 0⟩ :: gs) scope pos) 0 (.ref it) (.ref D) (compEnvC scope cl s3.heap.objs.size X.env)) (compEnds (model X.prog X.w) X.A X.xe none (EP X pins σ Q) (.ref D) (compEnvC scope cl s3.heap.objs.size X.env)) s4) :
    wpAny (model X.prog X.w) X.A (eval (kd.ex elt (⟨tg, iter, ifs, 0⟩ :: gs) scope pos) X.env) (EP X pins σ Q) X.xe s := by
  have hfree : ∀ y ∈ scope.names, y.2 = .free → ∃ c, X.env.cells.lookup y.1 = some c := fun y hy e => (ok.free y hy e).elim (fun k => I.ok.has _ (.inl k)) fun k => I.ok.has _ (.inr k)
  rw [Kd.eval]
  show wpAny _ _ (comprehension _ scope X.env _ kd.new false (eval iter X.env)) _ _ s
  refine comprehension_at (use := none) (g := ⟨tg, iter, ifs, 0⟩) (gs := gs) (by cases kd <;> rfl) hs (closure_ok hfree) ok.kind (fun y hy e => by rw [ok.uniq y hy, e]) ?_
  refine thn (hi.run pins s σ H _ I h) fun xv s1 hx => thn hx fun itv s2 h2 => ?_
  obtain ⟨it, fp, tn, J, H2, e, I2, T, st2, f2, q⟩ := h2
  subst e
  refine Kd.new_ok (newEnv_comp ?_)
  generalize hD : s2.heap.objs.size = D
  have hDn : H2 D = none := I2.hok.fresh (Nat.le_of_eq hD)
  generalize hs3 : ({ s2 with heap := s2.heap.push (kd.obj X.w) } : Shared) = s3
  have h3 : s3.heap = s2.heap.push (kd.obj X.w) := by rw [← hs3]
  have I3 : Inv X pins σ (upd H2 D (kd.ini X.prog X.w D)) s3 := by
    rw [← hs3]
    refine I2.laid (t' := s2.toks) (fun b o e => Heap.get?_push_of_some _ e) (Nat.le_of_eq hD) (Kd.ini_ok ?_)
    rw [← hD]
    exact Heap.get?_push_size _ Kd.noFreed
  have f3 : ∀ b ∈ fp, FpOk X pins (upd H2 D (kd.ini X.prog X.w D)) b ∧ b < s3.heap.objs.size := fun b hb => by
    obtain ⟨o, e, _⟩ := T.obj _ _ st2 b hb
    have hlt := Heap.lt_size e
    refine ⟨⟨?_, (f2 b hb).2⟩, by rw [h3, Heap.size_push]; exact Nat.lt_succ_of_lt hlt⟩
    rw [upd_ne (by rw [← hD]; exact Nat.ne_of_lt hlt)]
    exact (f2 b hb).1
  have st3 : tn 0 s3.heap := T.keep _ _ _ st2 fun b _ o e => by rw [h3]; exact Heap.get?_push_of_some _ e
  have I4 := block_start I3 ok hN f3
  have st4 : tn 0 (pushCells (s3.heap.push { cls := .type "dict", data := .dict #[] }) scope.names) := T.keep _ _ _ st3 fun b _ o e => pushCells_keeps _ _ _ _ (Heap.get?_push_of_some _ e)
  have z := go it D fp tn J H2 s3 _ (cellsFrom (s3.heap.objs.size + 1) scope.names (cloFrom X.env.cells scope.names [])) hDn q T I3 f3 st4 I4
  exact kc_start rfl z (T.self X.A 0 _ _ _ st4 z)

/-- a turn's beginning: the item has come -/
theorem pin_stat {σ' : L2.St} {H0 H' : Hp} {s0 s' : Shared} {ce : Env} {fp : List Addr} {pn : List (Addr × Obj)} (hpn : pn = []) (I : Inv (X.blk s0 H0 scope ce fp) pn σ' H' s') (hn : ∀ b ∈ fp, H' b = none) : ∀ b ∈ fp, FpOk (X.blk s0 H0 scope ce fp) pn H' b := fun b hb => by
  subst hpn
  exact ⟨hn b hb, (I.ok.exf b hb).1, I.ok.exfs b hb, .inl hb, fun x c e => (I.ok.exf b hb).2 x c e, fun p hp => absurd (show p ∈ ([] : List (Addr × Obj)) ++ [] from hp) (by simp)⟩

theorem kc_run {Pz : Cx → Prop} (hc : X.calm = true) (hN : X.N.Nodup) (hi : PI X tg iter wi) (ok : BlkOk X.N X.env.scope scope own)
    (hxb : ∀ ce u s', xb ce u s' → notedBy (model X.prog X.w) X.A ce (CompFails (model X.prog X.w) X.A X.xe ce) u s')
    (hz : ∀ (pins : List (Addr × Obj)) (σ : L2.St) (H : Hp) (s : Shared) (cl : List (PySem.Str × Addr)) (fp : List Addr), Inv X pins σ H s → (∀ b ∈ fp, FpOk X pins H b ∧ b < s.heap.objs.size) → Pz (bx X xb s H scope (compEnvC scope cl s.heap.objs.size X.env) fp))
    (hg : ∀ (s : Shared) (H : Hp) (C : Addr) (cl : List (PySem.Str × Addr)) (fp : List Addr), Pz (bx X xb s H scope (compEnvC scope cl C X.env) fp) → PG (bx X xb s H scope (compEnvC scope cl C X.env) fp) tg g)
    (ht : ∀ (s : Shared) (H : Hp) (C : Addr) (cl : List (PySem.Str × Addr)) (fp : List Addr), Pz (bx X xb s H scope (compEnvC scope cl C X.env) fp) → PTs (bx X xb s H scope (compEnvC scope cl C X.env) fp) ifs tt)
    (he : ∀ (s : Shared) (H : Hp) (C : Addr) (cl : List (PySem.Str × Addr)) (fp : List Addr), Pz (bx X xb s H scope (compEnvC scope cl C X.env) fp) → PE (bx X xb s H scope (compEnvC scope cl C X.env) fp) elt te)
    (hs : ∀ x, foldedSetIterable iter X.env x = pure x) : PE X (kd.ex elt [⟨tg, iter, ifs, 0⟩] scope pos) (tKc X.prog X.w kd wi g tt te (own.map (·.2))) := by
  refine ⟨fun pins s σ H Q I h => ?_⟩
  refine kc_open hN I hi ok hs h fun it D fp tn J H2 s3 s4 cl hDn q T I3 f3 st4 I4 => ?_
  obtain ⟨W, ⟨m0, w0⟩, turn⟩ := q D hDn
  have pz := hz pins σ _ s3 cl fp I3 f3
  have pg := hg s3 (upd H2 D (kd.ini X.prog X.w D)) s3.heap.objs.size cl fp pz
  have pt := ht s3 (upd H2 D (kd.ini X.prog X.w D)) s3.heap.objs.size cl fp pz
  have pe := he s3 (upd H2 D (kd.ini X.prog X.w D)) s3.heap.objs.size cl fp pz
  have kend := fun {σ' : L2.St} {H' : Hp} {s' : Shared} (I' : Inv (bx X xb s3 (upd H2 D (kd.ini X.prog X.w D)) scope (compEnvC scope cl s3.heap.objs.size X.env) fp) [] σ' H' s') (q' : Q (.ref D) H') => kc_end (D := D) (Q := Q) I3 f3 I' q'
  have nfp : ∀ b ∈ fp, (upd H2 D (kd.ini X.prog X.w D)) b = none := fun b hb => (f3 b hb).1.1
  generalize hce : compEnvC scope cl s3.heap.objs.size X.env = ce at I4 pg pt pe kend ⊢
  generalize hH3 : upd H2 D (kd.ini X.prog X.w D) = H3 at I3 I4 pg pt pe w0 nfp f3 kend
  refine loop_of (lay := kd.lay elt (.ref D) ce) (by cases kd <;> rfl) (by cases kd <;> rfl) kc_den1 (fun n s' => ∃ i H', Inv (X.blk s3 H3 scope ce fp) [] (wipe σ (own.map (·.2))) H' s' ∧ tn i s'.heap ∧ (∀ b ∈ fp, H' b = none) ∧ W i n H') ?_ m0 ⟨0, H3, I4, st4, nfp, w0⟩
  rintro n s5 ⟨i, H5, I5, st5, n5, w5⟩
  have up : ∀ {u : Value} {s' : Shared}, xb ce u s' → notedBy (model X.prog X.w) X.A ce (fun e s' => compEnds (model X.prog X.w) X.A X.xe none (EP X pins σ Q) (.ref D) ce (.error e) s') u s' := fun z => hxb ce _ _ z
  rcases turn i n H5 w5 with ⟨stop, qq⟩ | ⟨go, Nx, hNx, step⟩
  · refine thnF (T.done (X.blk s3 H3 scope ce fp) rfl rfl rfl hc i [] s5 _ H5 (fun _ _ => False) I5 (pin_stat rfl I5 n5) st5 stop) fun r s6 ⟨hr, I6⟩ => ?_
    subst hr
    exact kend (I6.wish (xb ce)) qq
  · refine thnF (T.item (X.blk s3 H3 scope ce fp) rfl rfl rfl hc i [] s5 _ H5 (fun _ _ => False) I5 (pin_stat rfl I5 n5) st5 go) fun r s6 ⟨u, hr, h6⟩ => ?_
    subst hr
    refine thnF h6 fun _ s7 ⟨x, H7, I7, r7, y7, st7, n7⟩ => ?_
    have I7' := (I7.pinned (pin_stat rfl I7 n7) (T.obj _ _ st7)).wish (xb ce)
    refine wpAny_mono (pg.run _ s7 _ H7 x u _ I7' r7 (step x H7 y7)) (fun _ s8 ⟨σ8, H8, I8, hw8, q8⟩ => ?_) fun _ _ z => up z
    refine wpAny_mono (pt.run _ s8 σ8 H8 _ I8 q8) (fun b s9 ⟨H9, I9, q9⟩ => ?_) fun _ _ z => up z
    -- the turn's end
    have fin : ∀ {s' : Shared} {H' : Hp}, Inv (bx X xb s3 H3 scope ce fp) ([] ++ pinsAt fp s7.heap) σ8 H' s' → Nx H' → ∃ m, m < n ∧ ∃ i H', Inv (X.blk s3 H3 scope ce fp) [] (wipe σ (own.map (·.2))) H' s' ∧ tn i s'.heap ∧ (∀ b ∈ fp, H' b = none) ∧ W i m H' := fun {s' H'} I' nx => by
      obtain ⟨m', hm, w'⟩ := hNx H' nx
      have pin' : ∀ b ∈ fp, ∀ o, s7.heap.get? b = some o → s'.heap.get? b = some o ∧ H' b = none := fun b hb o e =>
        let z := I'.pin (b, o) (List.mem_append_right _ (List.mem_append_right _ (mem_pinsAt hb e)))
        ⟨z.1, z.2.1⟩
      have hl : (wipe σ (own.map (·.2))).length = σ8.length := by rw [← hw8, wipe_length]
      refine ⟨m', hm, i + 1, H', ((I'.unwish).unpinned (pins := [])).weak hl (fun j v e => (wipe_some (hw8 ▸ e)).1), T.keep _ _ _ st7 fun b hb o e => (pin' b hb o e).1, fun b hb => ?_, w'⟩
      obtain ⟨o, e, _⟩ := T.obj _ _ st7 b hb
      exact (pin' b hb o e).2
    cases b with
    | false =>
      simp only [Bool.false_eq_true, if_false] at q9 ⊢
      exact fin I9 q9
    | true =>
      simp only [if_true] at q9 ⊢
      exact wpAny_mono (lay_ok kd pe I9 q9) (fun _ s' ⟨H', I', nx⟩ => fin I' nx) fun _ _ z => up z
end
end TS
end
/-! TC5 -/
set_option linter.all false
set_option maxRecDepth 100000
set_option maxHeartbeats 4000000
noncomputable section
namespace TS
open PySem PySem.Spec PyProof.Rows L2 PySem.Froz

/-- two clauses; vs: the block's names, vs1: those of the second target -/
def tKc2 (P : Program) (w : World) (kd : Kd) (wi : TI) (g : TG) (tt : TT) (wi1 : TI) (g1 : TG) (tt1 : TT) (te : TE) (vs vs1 : List Nat) : TE := fun σ H Q => wi σ H fun J H1 => ∀ D, H1 D = none → ∃ W : Nat → Nat → Hp → Prop, (∃ m, W 0 m (upd H1 D (kd.ini P w D))) ∧ ∀ i m H, W i m H →
  (J.stop i H ∧ Q (.ref D) H) ∨ (J.go i H ∧ ∃ Nx : Hp → Prop, (∀ H', Nx H' → ∃ m', m' < m ∧ W (i + 1) m' H') ∧ ∀ x H', J.yld i H x H' → g x (wipe σ vs) H' fun σ2 H2 => wipe σ2 vs = wipe σ vs ∧ tt σ2 H2 fun b H3 =>
    if b = true then wi1 σ2 H3 fun J1 H4 => ∃ W1 : Nat → Nat → Hp → Prop, (∃ m, W1 0 m H4) ∧ ∀ j k H, W1 j k H →
      (J1.stop j H ∧ Nx H) ∨ (J1.go j H ∧ ∃ Nx1 : Hp → Prop, (∀ H', Nx1 H' → ∃ k', k' < k ∧ W1 (j + 1) k' H') ∧ ∀ x H', J1.yld j H x H' → g1 x (wipe σ2 vs1) H' fun σ3 H5 => wipe σ3 vs1 = wipe σ2 vs1 ∧ tt1 σ3 H5 fun b H6 =>
        if b = true then te σ3 H6 fun y H7 => kd.add P w D H7 y Nx1 else Nx1 H6)
    else Nx H3)

section
variable {X : Cx} {kd : Kd} {elt tg iter tg1 iter1 : Expr} {ifs ifs1 : List Expr} {scope : Scope} {own : List (PySem.Str × Nat)} {vs1 : List Nat} {pos : Pos} {wi wi1 : TI} {g g1 : TG} {tt tt1 : TT} {te : TE} {xb : Env → Value → Shared → Prop}

theorem kc_den2 {P : Program} {w : World} {t i t1 i1 : Expr} {it acc : Value} {env : Env} : (model P w).den (.compLoop (kd.ex elt [⟨t, i, ifs, 0⟩, ⟨t1, i1, ifs1, 0⟩] scope pos) 1 it acc env) =
    (turnL t1 i1 ifs1 (kd.lay elt acc env) (.compLoop (kd.ex elt [⟨t, i, ifs, 0⟩, ⟨t1, i1, ifs1, 0⟩] scope pos) 1 it acc env) it env).onRaise (fun x => noteFrame x env >>= fun _ => theTreesLotGoes x) := by
  cases kd
  · exact den_list2
  · exact den_set2
theorem kc_den2o {P : Program} {w : World} {t i t1 i1 : Expr} {it acc : Value} {env : Env} : (model P w).den (.compLoop (kd.ex elt [⟨t, i, ifs, 0⟩, ⟨t1, i1, ifs1, 0⟩] scope pos) 0 it acc env) =
    (turnO t i ifs i1 (kd.ex elt [⟨t, i, ifs, 0⟩, ⟨t1, i1, ifs1, 0⟩] scope pos) acc (.compLoop (kd.ex elt [⟨t, i, ifs, 0⟩, ⟨t1, i1, ifs1, 0⟩] scope pos) 0 it acc env) it env).onRaise (fun x => noteFrame x env >>= fun _ => theTreesLotGoes x) := by
  cases kd
  · exact den_list2o
  · exact den_set2o
theorem set_start1 {prog : Program} {w : World} {A : Around} {R : Result → Shared → Prop} {s : Shared} {t0 i0 t1 i1 : Expr} {ifs0 ifs1 : List Expr} {it acc : Value} {env : Env} (h0 : codeAny (model prog w) A (.compLoop (.SetComp elt [⟨t0, i0, ifs0, 0⟩, ⟨t1, i1, ifs1, 0⟩] scope pos) 1 it acc env) R s)
    (h : wpAny (model prog w) A (pyIter it) (fun it' s' => codeAny (model prog w) A (.compLoop (.SetComp elt [⟨t0, i0, ifs0, 0⟩, ⟨t1, i1, ifs1, 0⟩] scope pos) 1 it' acc env) R s') (notedBy (model prog w) A env fun x s' => R (.error x) s') s) :
    codeAny (model prog w) A (.compStart (.SetComp elt [⟨t0, i0, ifs0, 0⟩, ⟨t1, i1, ifs1, 0⟩] scope pos) 1 it acc env) R s := by
  refine codeAny_of_tree ?_
  show wpAny _ _ ((PySem.compStart _ 1 it acc env).onRaise (fun x => do noteFrame x env; standAt theWindowsPlace)) _ _ s
  refine wpAny_notedAt ?_
  unfold PySem.compStart
  show wpAny _ _ (ask >>= _) _ _ s
  refine wpAny_bind (wpAny_askSetting (wpAny_ite ?_))
  split
  · first
      | exact wpAny_pure ⟨rfl, h0⟩
      | exact wpAny_bind (wpAny_pure (wpAny_pure ⟨rfl, h0⟩))
  · refine wpAny_bind (wpAny_rule ?_)
    show wpAny _ _ (standAt i1.pos >>= _) _ _ s
    exact wpAny_bind (wpAny_standAt (wpAny_bind (wpAny_mono h (fun it' s' h' => wpAny_pure ⟨rfl, h'⟩) fun _ _ x => x)))
theorem kc_start1 {prog : Program} {w : World} {A : Around} {R : Result → Shared → Prop} {s : Shared} {t0 i0 t1 i1 : Expr} {ifs0 ifs1 : List Expr} {it acc : Value} {env : Env} (h0 : codeAny (model prog w) A (.compLoop (kd.ex elt [⟨t0, i0, ifs0, 0⟩, ⟨t1, i1, ifs1, 0⟩] scope pos) 1 it acc env) R s)
    (h : wpAny (model prog w) A (pyIter it) (fun it' s' => codeAny (model prog w) A (.compLoop (kd.ex elt [⟨t0, i0, ifs0, 0⟩, ⟨t1, i1, ifs1, 0⟩] scope pos) 1 it' acc env) R s') (notedBy (model prog w) A env fun x s' => R (.error x) s') s) :
    codeAny (model prog w) A (.compStart (kd.ex elt [⟨t0, i0, ifs0, 0⟩, ⟨t1, i1, ifs1, 0⟩] scope pos) 1 it acc env) R s := by
  cases kd with
  | lst => exact compStart1_ok h0 h
  | set => exact set_start1 h0 h

theorem kc2_run {Pz : Cx → Prop} (hc : X.calm = true) (hN : X.N.Nodup) (hi : PI X tg iter wi) (ok : BlkOk X.N X.env.scope scope own) (hv : ∀ i ∈ vs1, i ∈ own.map (·.2))
    (hxb : ∀ ce u s', xb ce u s' → notedBy (model X.prog X.w) X.A ce (CompFails (model X.prog X.w) X.A X.xe ce) u s')
    (hz : ∀ (pins : List (Addr × Obj)) (σ : L2.St) (H : Hp) (s : Shared) (cl : List (PySem.Str × Addr)) (fp : List Addr), Inv X pins σ H s → (∀ b ∈ fp, FpOk X pins H b ∧ b < s.heap.objs.size) → Pz (bx X xb s H scope (compEnvC scope cl s.heap.objs.size X.env) fp))
    (hg : ∀ (s : Shared) (H : Hp) (C : Addr) (cl : List (PySem.Str × Addr)) (fp : List Addr), Pz (bx X xb s H scope (compEnvC scope cl C X.env) fp) → PG (bx X xb s H scope (compEnvC scope cl C X.env) fp) tg g)
    (ht : ∀ (s : Shared) (H : Hp) (C : Addr) (cl : List (PySem.Str × Addr)) (fp : List Addr), Pz (bx X xb s H scope (compEnvC scope cl C X.env) fp) → PTs (bx X xb s H scope (compEnvC scope cl C X.env) fp) ifs tt)
    (hi1 : ∀ (s : Shared) (H : Hp) (C : Addr) (cl : List (PySem.Str × Addr)) (fp : List Addr), Pz (bx X xb s H scope (compEnvC scope cl C X.env) fp) → PI (bx X xb s H scope (compEnvC scope cl C X.env) fp) tg1 iter1 wi1)
    (hg1 : ∀ (s : Shared) (H : Hp) (C : Addr) (cl : List (PySem.Str × Addr)) (fp : List Addr), PG (X.blk s H scope (compEnvC scope cl C X.env) fp) tg1 g1)
    (ht1 : ∀ (s : Shared) (H : Hp) (C : Addr) (cl : List (PySem.Str × Addr)) (fp : List Addr), PTs (X.blk s H scope (compEnvC scope cl C X.env) fp) ifs1 tt1)
    (he : ∀ (s : Shared) (H : Hp) (C : Addr) (cl : List (PySem.Str × Addr)) (fp : List Addr), PE (X.blk s H scope (compEnvC scope cl C X.env) fp) elt te)
    (hs : ∀ x, foldedSetIterable iter X.env x = pure x) (hs1 : ∀ env x, foldedSetIterable iter1 env x = pure x) :
    PE X (kd.ex elt [⟨tg, iter, ifs, 0⟩, ⟨tg1, iter1, ifs1, 0⟩] scope pos) (tKc2 X.prog X.w kd wi g tt wi1 g1 tt1 te (own.map (·.2)) vs1) := by
  refine ⟨fun pins s σ H Q I h => ?_⟩
  refine kc_open hN I hi ok hs h fun it D fp tn J H2 s3 s4 cl hDn q T I3 f3 st4 I4 => ?_
  obtain ⟨W, ⟨m0, w0⟩, turn⟩ := q D hDn
  have pz := hz pins σ _ s3 cl fp I3 f3
  have pg := hg s3 (upd H2 D (kd.ini X.prog X.w D)) s3.heap.objs.size cl fp pz
  have pt := ht s3 (upd H2 D (kd.ini X.prog X.w D)) s3.heap.objs.size cl fp pz
  have pi1 := hi1 s3 (upd H2 D (kd.ini X.prog X.w D)) s3.heap.objs.size cl fp pz
  have pe := he s3 (upd H2 D (kd.ini X.prog X.w D)) s3.heap.objs.size cl fp
  have pg1 := hg1 s3 (upd H2 D (kd.ini X.prog X.w D)) s3.heap.objs.size cl fp
  have pt1 := ht1 s3 (upd H2 D (kd.ini X.prog X.w D)) s3.heap.objs.size cl fp
  have kend := fun {σ' : L2.St} {H' : Hp} {s' : Shared} (I' : Inv (bx X xb s3 (upd H2 D (kd.ini X.prog X.w D)) scope (compEnvC scope cl s3.heap.objs.size X.env) fp) [] σ' H' s') (q' : Q (.ref D) H') => kc_end (D := D) (Q := Q) I3 f3 I' q'
  have nfp : ∀ b ∈ fp, (upd H2 D (kd.ini X.prog X.w D)) b = none := fun b hb => (f3 b hb).1.1
  generalize hce : compEnvC scope cl s3.heap.objs.size X.env = ce at I4 pg pt pe pi1 pg1 pt1 kend ⊢
  generalize hH3 : upd H2 D (kd.ini X.prog X.w D) = H3 at I3 I4 pg pt pe pi1 pg1 pt1 w0 nfp f3 kend
  refine loop_ofO (by cases kd <;> rfl) (by cases kd <;> rfl) kc_den2o (hs1 ce) (fun n s' => ∃ i H', Inv (X.blk s3 H3 scope ce fp) [] (wipe σ (own.map (·.2))) H' s' ∧ tn i s'.heap ∧ (∀ b ∈ fp, H' b = none) ∧ W i n H') ?_ m0 ⟨0, H3, I4, st4, nfp, w0⟩
  rintro n s5 ⟨i, H5, I5, st5, n5, w5⟩
  have up : ∀ {u : Value} {s' : Shared}, xb ce u s' → notedBy (model X.prog X.w) X.A ce (fun e s' => compEnds (model X.prog X.w) X.A X.xe none (EP X pins σ Q) (.ref D) ce (.error e) s') u s' := fun z => hxb ce _ _ z
  rcases turn i n H5 w5 with ⟨stop, qq⟩ | ⟨go, Nx, hNx, step⟩
  · refine thnF (T.done (X.blk s3 H3 scope ce fp) rfl rfl rfl hc i [] s5 _ H5 (fun _ _ => False) I5 (pin_stat rfl I5 n5) st5 stop) fun r s6 ⟨hr, I6⟩ => ?_
    subst hr
    exact kend (I6.wish (xb ce)) qq
  · refine thnF (T.item (X.blk s3 H3 scope ce fp) rfl rfl rfl hc i [] s5 _ H5 (fun _ _ => False) I5 (pin_stat rfl I5 n5) st5 go) fun r s6 ⟨u, hr, h6⟩ => ?_
    subst hr
    refine thnF h6 fun _ s7 ⟨x, H7, I7, r7, y7, st7, n7⟩ => ?_
    have I7' := (I7.pinned (pin_stat rfl I7 n7) (T.obj _ _ st7)).wish (xb ce)
    refine wpAny_mono (pg.run _ s7 _ H7 x u _ I7' r7 (step x H7 y7)) (fun _ s8 ⟨σ8, H8, I8, hw8, q8⟩ => ?_) fun _ _ z => up z
    refine wpAny_mono (pt.run _ s8 σ8 H8 _ I8 q8) (fun b s9 ⟨H9, I9, q9⟩ => ?_) fun _ _ z => up z
    -- the turn's end, from any slots that know what the block knew at its start
    have fin : ∀ {σ9 : L2.St} {s' : Shared} {H' : Hp}, Inv (X.blk s3 H3 scope ce fp) ([] ++ pinsAt fp s7.heap) σ9 H' s' → (wipe σ (own.map (·.2))).length = σ9.length → (∀ (j : Nat) v, (wipe σ (own.map (·.2)))[j]? = some (some v) → σ9[j]? = some (some v)) → Nx H' →
        ∃ m, m < n ∧ ∃ i H', Inv (X.blk s3 H3 scope ce fp) [] (wipe σ (own.map (·.2))) H' s' ∧ tn i s'.heap ∧ (∀ b ∈ fp, H' b = none) ∧ W i m H' := fun {σ9 s' H'} I' hl hk nx => by
      obtain ⟨m', hm, w'⟩ := hNx H' nx
      have pin' : ∀ b ∈ fp, ∀ o, s7.heap.get? b = some o → s'.heap.get? b = some o ∧ H' b = none := fun b hb o e =>
        let z := I'.pin (b, o) (List.mem_append_right _ (List.mem_append_right _ (mem_pinsAt hb e)))
        ⟨z.1, z.2.1⟩
      refine ⟨m', hm, i + 1, H', (I'.unpinned (pins := [])).weak hl hk, T.keep _ _ _ st7 fun b hb o e => (pin' b hb o e).1, fun b hb => ?_, w'⟩
      obtain ⟨o, e, _⟩ := T.obj _ _ st7 b hb
      exact (pin' b hb o e).2
    have hl8 : (wipe σ (own.map (·.2))).length = σ8.length := by rw [← hw8, wipe_length]
    have hk8 : ∀ (j : Nat) v, (wipe σ (own.map (·.2)))[j]? = some (some v) → σ8[j]? = some (some v) := fun j v e => (wipe_some (hw8 ▸ e)).1
    have hk9 : ∀ (j : Nat) v, (wipe σ (own.map (·.2)))[j]? = some (some v) → (wipe σ8 vs1)[j]? = some (some v) := fun j v e => by
      obtain ⟨e1, e2⟩ := wipe_some (hw8 ▸ e)
      rw [wipe_out fun z => e2 (hv j z)]
      exact e1
    cases b with
    | false =>
      simp only [Bool.false_eq_true, if_false] at q9 ⊢
      exact fin I9.unwish hl8 hk8 q9
    | true =>
      simp only [if_true] at q9 ⊢
      refine wpAny_mono (pi1.run _ s9 σ8 H9 _ I9 q9) (fun xv s10 hx => wpAny_mono hx (fun itv s11 h11 => ?_) fun _ _ z => up z) fun _ _ z => up z
      obtain ⟨it1, fp1, tn1, J1, H11, e1, I11w, T1, st11, f11, W1, ⟨m1, w1⟩, turn1⟩ := h11
      subst e1
      have I11 : Inv (X.blk s3 H3 scope ce fp) ([] ++ pinsAt fp s7.heap) σ8 H11 s11 := I11w.unwish
      have stat1 : ∀ {H' : Hp}, (∀ b ∈ fp1, H' b = none) → ∀ b ∈ fp1, FpOk (X.blk s3 H3 scope ce fp) ([] ++ pinsAt fp s7.heap) H' b := fun hn b hb => ⟨hn b hb, (f11 b hb).2⟩
      have loop1 : codeAny (model X.prog X.w) X.A (.compLoop (kd.ex elt [⟨tg, iter, ifs, 0⟩, ⟨tg1, iter1, ifs1, 0⟩] scope pos) 1 (.ref it1) (.ref D) ce)
          (fun r s' => match r with
            | .ok _ => ∃ m, m < n ∧ ∃ i H', Inv (X.blk s3 H3 scope ce fp) [] (wipe σ (own.map (·.2))) H' s' ∧ tn i s'.heap ∧ (∀ b ∈ fp, H' b = none) ∧ W i m H'
            | .error _ => False) s11 := by
        refine loop_of (lay := kd.lay elt (.ref D) ce) (by cases kd <;> rfl) (by cases kd <;> rfl) kc_den2 (fun k s' => ∃ j H', Inv (X.blk s3 H3 scope ce fp) ([] ++ pinsAt fp s7.heap) (wipe σ8 vs1) H' s' ∧ tn1 j s'.heap ∧ (∀ b ∈ fp1, H' b = none) ∧ W1 j k H') ?_ m1
          ⟨0, H11, I11.weak (wipe_length _ _) (fun j v e => (wipe_some e).1), st11, fun b hb => (f11 b hb).1, w1⟩
        rintro k s12 ⟨j, H12, I12, st12, n12, w12⟩
        rcases turn1 j k H12 w12 with ⟨stop1, nx1⟩ | ⟨go1, Nx1, hNx1, step1⟩
        · refine thnF (T1.done (X.blk s3 H3 scope ce fp) rfl rfl rfl hc j _ s12 (wipe σ8 vs1) H12 (fun _ _ => False) I12 (stat1 n12) st12 stop1) fun r s13 ⟨hr, I13⟩ => ?_
          subst hr
          exact fin I13 (hl8.trans (wipe_length σ8 vs1).symm) hk9 nx1
        · refine thnF (T1.item (X.blk s3 H3 scope ce fp) rfl rfl rfl hc j _ s12 (wipe σ8 vs1) H12 (fun _ _ => False) I12 (stat1 n12) st12 go1) fun r s13 ⟨u1, hr, h13⟩ => ?_
          subst hr
          refine thnF h13 fun _ s14 ⟨x1, H14, I14, r14, y14, st14, n14⟩ => ?_
          have I14' := I14.pinned (stat1 n14) (T1.obj _ _ st14)
          refine thnF (pg1.run _ s14 (wipe σ8 vs1) H14 x1 u1 _ I14' r14 (step1 x1 H14 y14)) fun _ s15 ⟨σ15, H15, I15, hw15, q15⟩ => ?_
          refine thnF (pt1.run _ s15 σ15 H15 _ I15 q15) fun b1 s16 ⟨H16, I16, q16⟩ => ?_
          have fin1 : ∀ {s' : Shared} {H' : Hp}, Inv (X.blk s3 H3 scope ce fp) (([] ++ pinsAt fp s7.heap) ++ pinsAt fp1 s14.heap) σ15 H' s' → Nx1 H' → ∃ m, m < k ∧ ∃ j H', Inv (X.blk s3 H3 scope ce fp) ([] ++ pinsAt fp s7.heap) (wipe σ8 vs1) H' s' ∧ tn1 j s'.heap ∧ (∀ b ∈ fp1, H' b = none) ∧ W1 j m H' := fun {s' H'} I' nx => by
            obtain ⟨m', hm, w'⟩ := hNx1 H' nx
            have pin' : ∀ b ∈ fp1, ∀ o, s14.heap.get? b = some o → s'.heap.get? b = some o ∧ H' b = none := fun b hb o e =>
              let z := I'.pin (b, o) (List.mem_append_right _ (List.mem_append_right _ (mem_pinsAt hb e)))
              ⟨z.1, z.2.1⟩
            refine ⟨m', hm, j + 1, H', I'.unpinned.weak (by rw [← hw15, wipe_length]) (fun j v e => (wipe_some (hw15 ▸ e)).1), T1.keep _ _ _ st14 fun b hb o e => (pin' b hb o e).1, fun b hb => ?_, w'⟩
            obtain ⟨o, e, _⟩ := T1.obj _ _ st14 b hb
            exact (pin' b hb o e).2
          cases b1 with
          | false =>
            simp only [Bool.false_eq_true, if_false] at q16 ⊢
            exact fin1 I16 q16
          | true =>
            simp only [if_true] at q16 ⊢
            exact thnF (lay_ok kd pe I16 q16) fun _ s' ⟨H', I', nx⟩ => fin1 I' nx
      exact kc_start1 loop1 (T1.self X.A 0 _ _ _ st11 loop1)
end
end TS
end
/-! TD1 -/
set_option linter.all false
set_option maxRecDepth 100000
set_option maxHeartbeats 4000000
noncomputable section
namespace TS
open PySem PySem.Spec PyProof.Rows L2 PySem.Froz Evl

/-! ### iterators over values that are known ahead -/
structure Goes (J : It) (Hc : Hp → Prop) (xs : List V) : Prop where
  go : ∀ i x H, xs[i]? = some x → Hc H → J.go i H
  stop : ∀ i H, xs.length ≤ i → Hc H → J.stop i H
  yld : ∀ i x H y H', xs[i]? = some x → Hc H → J.yld i H y H' → H' = H ∧ y = x

theorem goes_l {K : PySem.W.Frag} {a : Addr} {xs : List V} {Hc : Hp → Prop} (h : ∀ H, Hc H → SqL K H a xs) : Goes (Itl K a) Hc xs where
  go := fun i x H hx hc => ⟨xs, x, h H hc, hx⟩
  stop := fun i H hi hc => ⟨xs, h H hc, hi⟩
  yld := fun i x H y H' hx hc hy => by
    obtain ⟨e, q⟩ := hy
    have z := q xs (h H hc)
    rw [hx] at z
    exact ⟨e, (Option.some.inj z).symm⟩
theorem goes_t {K : PySem.W.Frag} {a : Addr} {xs : List V} {Hc : Hp → Prop} (h : ∀ H, Hc H → SqT K H a xs) : Goes (Itt K a) Hc xs where
  go := fun i x H hx hc => ⟨xs, x, h H hc, hx⟩
  stop := fun i H hi hc => ⟨xs, h H hc, hi⟩
  yld := fun i x H y H' hx hc hy => by
    obtain ⟨e, q⟩ := hy
    have z := q xs (h H hc)
    rw [hx] at z
    exact ⟨e, (Option.some.inj z).symm⟩
/-- the numbers of a range -/
def nums (lo : Int) (n : Nat) : List V := (List.range n).map fun (k : Nat) => V.int (lo + (k : Int))
theorem nums_len (lo : Int) (n : Nat) : (nums lo n).length = n := by simp [nums]
theorem nums_at {lo : Int} {n i : Nat} {x : V} (h : (nums lo n)[i]? = some x) : i < n ∧ x = V.int (lo + (i : Int)) := by
  have hi : i < n := by have := (List.getElem?_eq_some_iff.mp h).1; rwa [nums_len] at this
  refine ⟨hi, ?_⟩
  simp only [nums, List.getElem?_map, List.getElem?_range hi, Option.map_some] at h
  exact (Option.some.inj h).symm
theorem goes_r {lo : Int} {n : Nat} {Hc : Hp → Prop} : Goes (Itr lo n) Hc (nums lo n) where
  go := fun i x H hx _ => (nums_at hx).1
  stop := fun i H hi _ => by rw [nums_len] at hi; exact hi
  yld := fun i x H y H' hx _ hy => ⟨hy.1, hy.2.trans (nums_at hx).2.symm⟩
/-- the signs of a text -/
def signsV (x : PySem.Str) : List V := (signs x).map V.str
theorem signsV_at {x : PySem.Str} {i : Nat} {c : Nat} (h : x.cps[i]? = some c) : (signsV x)[i]? = some (V.str ⟨#[c]⟩) := by
  have h2 : x.cps.toList[i]? = some c := by simpa using h
  simp [signsV, signs, List.getElem?_map, h2]
theorem signsV_len (x : PySem.Str) : (signsV x).length = x.cps.size := by simp [signsV, signs]
theorem goes_s {x : PySem.Str} {Hc : Hp → Prop} : Goes (Its x) Hc (signsV x) where
  go := fun i y H hx _ => by have := (List.getElem?_eq_some_iff.mp hx).1; rw [signsV_len] at this; exact this
  stop := fun i H hi _ => by rw [signsV_len] at hi; exact hi
  yld := fun i y H z H' hx _ hy => by
    obtain ⟨e, c, hc, rfl⟩ := hy
    rw [signsV_at hc] at hx
    exact ⟨e, Option.some.inj hx⟩

/-- the turns of any walk, by what holds behind i of them -/
theorem turns {J : It} {Hc : Hp → Prop} {xs : List V} (g : Goes J Hc xs) {H0 : Hp} {Step : V → Hp → (Hp → Prop) → Prop} {Qd : Hp → Prop} (Pv : Nat → Hp → Prop) (h0 : Pv 0 H0) (hl : ∀ i H, i ≤ xs.length → Pv i H → Hc H)
    (hs : ∀ i x H, xs[i]? = some x → Pv i H → Step x H (Pv (i + 1))) (hd : ∀ H, Pv xs.length H → Qd H) :
    ∃ W : Nat → Nat → Hp → Prop, (∃ m, W 0 m H0) ∧ ∀ i m H, W i m H → (J.stop i H ∧ Qd H) ∨ (J.go i H ∧ ∃ Nx : Hp → Prop, (∀ H', Nx H' → ∃ m', m' < m ∧ W (i + 1) m' H') ∧ ∀ x H', J.yld i H x H' → Step x H' Nx) := by
  refine ⟨fun i m H => i ≤ xs.length ∧ m = xs.length - i ∧ Pv i H, ⟨xs.length, Nat.zero_le _, by simp, h0⟩, ?_⟩
  rintro i m H ⟨hi, rfl, p⟩
  have c := hl i H hi p
  cases e : xs[i]? with
  | some x =>
    have hlt := (List.getElem?_eq_some_iff.mp e).1
    refine .inr ⟨g.go i x H e c, Pv (i + 1), fun H' p' => ⟨xs.length - (i + 1), by omega, hlt, rfl, p'⟩, fun y H' hy => ?_⟩
    obtain ⟨rfl, rfl⟩ := g.yld i x H y H' e c hy
    exact hs i _ _ e p
  | none =>
    have z : i = xs.length := Nat.le_antisymm hi (List.getElem?_eq_none_iff.mp e)
    subst z
    exact .inl ⟨g.stop _ H (Nat.le_refl _) c, hd H p⟩

/-- a source evaluates to a walk over xs, leaving what is known; G: the ground, with what the source has made -/
def EvI (wi : TI) (σ : L2.St) (H : Hp) (xs : List V) : Prop := ∀ H1, Ex H H1 → ∀ R : It → Hp → Prop, (∀ J H2 G, Ex H1 H2 → Ex H G → Ex G H2 → (∀ b, H b = none → H1 b ≠ none → G b = none) → Goes J (fun H' => Ex G H') xs → R J H2) → wi σ H1 R
/-- an expression, a source never gives anything: it raises -/
def Nev (te : TE) (σ : L2.St) (H : Hp) : Prop := ∀ H1, Ex H H1 → ∀ Q : VK, te σ H1 Q
def NevI (wi : TI) (σ : L2.St) (H : Hp) : Prop := ∀ H1, Ex H H1 → ∀ R : It → Hp → Prop, wi σ H1 R

section
variable {K : PySem.W.Frag} {σ : L2.St} {H H' : Hp} {tl te : TE} {xs : List V} {a : Addr}
/-- two grounds of one heap, together -/
def both (H G : Hp) : Hp := fun b => match H b with | some o => some o | none => G b
theorem both_l : Ex H (both H H') := fun b o h => by unfold both; rw [h]
theorem both_r {H2 : Hp} (h1 : Ex H H2) (h2 : Ex H' H2) : Ex H' (both H H') := fun b o h => by
  unfold both
  cases q : H b with
  | none => exact h
  | some u => rw [← h1 b u q, h2 b o h]
theorem both_in {H2 : Hp} (h1 : Ex H H2) (h2 : Ex H' H2) : Ex (both H H') H2 := fun b o h => by
  unfold both at h
  cases q : H b with
  | none => rw [q] at h; exact h2 b o h
  | some u => rw [q] at h; rw [← h]; exact h1 b u q
theorem Goes.weak {J : It} {Hc Hd : Hp → Prop} (g : Goes J Hc xs) (h : ∀ H, Hd H → Hc H) : Goes J Hd xs :=
  ⟨fun i x H hx c => g.go i x H hx (h H c), fun i H hi c => g.stop i H hi (h H c), fun i x H y H' hx c hy => g.yld i x H y H' hx (h H c) hy⟩
theorem EvI.mono {wi : TI} (e : Ex H H') (h : EvI wi σ H xs) : EvI wi σ H' xs := fun H1 a R q => h H1 (e.trans a) R fun J H2 G e2 eG eG2 nG g =>
  have l : Ex H' H2 := a.trans e2
  q J H2 (both H' G) e2 both_l (both_in l eG2) (fun b h0 h1 => by
    unfold both
    rw [h0]
    exact nG b (by cases z : H b with | none => rfl | some o => rw [e b o z] at h0; cases h0) h1) (g.weak fun H3 e3 => (both_r l eG2).trans e3)
theorem ei_list (h : Ev tl σ H (.ref a)) (hs : SqL K H a xs) : EvI (iList K tl) σ H xs := fun H1 e R q => h H1 e _ fun H2 e2 =>
  ⟨a, rfl, ⟨xs, ex_l (e.trans e2) hs⟩, q _ H2 H e2 (Ex.refl H) (e.trans e2) (fun _ n _ => n) (goes_l fun H3 e3 => ex_l e3 hs)⟩
theorem ei_tup (h : Ev tl σ H (.ref a)) (hs : SqT K H a xs) : EvI (iTup K tl) σ H xs := fun H1 e R q => h H1 e _ fun H2 e2 =>
  ⟨a, rfl, ⟨xs, ex_t (e.trans e2) hs⟩, q _ H2 H e2 (Ex.refl H) (e.trans e2) (fun _ n _ => n) (goes_t fun H3 e3 => ex_t e3 hs)⟩
theorem ei_new (h : EvL tl σ H xs) : EvI (iList K tl) σ H xs := fun H1 e R q => h H1 e _ fun p H2 hp e2 h2 =>
  ⟨p, rfl, ⟨xs, sq_of h2⟩, q _ H2 (upd H p (.lst xs)) e2 (Ex.new (fresh_back e hp)) (fun b o z => by
    by_cases hb : b = p
    · subst hb; rw [upd_same] at z; rw [← z]; exact h2
    · rw [upd_ne hb] at z; exact e2 b o (e b o z)) (fun b n n1 => by
    have ne : b ≠ p := fun z => n1 (by rw [z]; exact hp)
    rw [upd_ne ne]; exact n) (goes_l fun H3 e3 => sq_of (e3 p _ upd_same))⟩
theorem ei_str {x : PySem.Str} (h : Ev te σ H (.str x)) : EvI (iStr te) σ H (signsV x) := fun H1 e R q => h H1 e _ fun H2 e2 => ⟨x, rfl, q _ H2 H e2 (Ex.refl H) (e.trans e2) (fun _ n _ => n) goes_s⟩
theorem ei_rng1 {ta : TA} {n : Int} (h : EvA ta σ H [.int n]) (h1 : -(2 ^ 62) ≤ n) (h2 : n < 2 ^ 62) : EvI (iRng1 ta) σ H (nums 0 n.toNat) := fun H1 e R q => h H1 e _ fun H2 e2 => ⟨n, rfl, h1, h2, q _ H2 H e2 (Ex.refl H) (e.trans e2) (fun _ n _ => n) goes_r⟩
theorem nevi_list (h : Nev tl σ H) : NevI (iList K tl) σ H := fun H1 e R => h H1 e _
/-- a list or a tuple, whichever it is -/
def SqE (K : PySem.W.Frag) (H : Hp) (x : V) (xs : List V) : Prop := ∃ a, x = .ref a ∧ (SqL K H a xs ∨ SqT K H a xs)
theorem SqE.mono {x : V} (e : Ex H H') (h : SqE K H x xs) : SqE K H' x xs := by
  obtain ⟨a, rfl, h | h⟩ := h
  · exact ⟨a, rfl, .inl (ex_l e h)⟩
  · exact ⟨a, rfl, .inr (ex_t e h)⟩
def iSeq (K : PySem.W.Frag) (tl : TE) : TI := fun σ H R => tl σ H fun x H1 => ∃ a, x = .ref a ∧ (((∃ xs, SqL K H1 a xs) ∧ R (Itl K a) H1) ∨ ((∃ xs, SqT K H1 a xs) ∧ R (Itt K a) H1))
theorem ei_seq {x : V} (h : Ev tl σ H x) (hs : SqE K H x xs) : EvI (iSeq K tl) σ H xs := fun H1 e R q => h H1 e _ fun H2 e2 => by
  obtain ⟨a, rfl, hs | hs⟩ := hs
  · exact ⟨a, rfl, .inl ⟨⟨xs, ex_l (e.trans e2) hs⟩, q _ H2 H e2 (Ex.refl H) (e.trans e2) (fun _ n _ => n) (goes_l fun H3 e3 => ex_l e3 hs)⟩⟩
  · exact ⟨a, rfl, .inr ⟨⟨xs, ex_t (e.trans e2) hs⟩, q _ H2 H e2 (Ex.refl H) (e.trans e2) (fun _ n _ => n) (goes_t fun H3 e3 => ex_t e3 hs)⟩⟩
theorem nevi_seq (h : Nev tl σ H) : NevI (iSeq K tl) σ H := fun H1 e R => h H1 e _
end
theorem pi_seq {X : Cx} {tg l : Expr} {tl : TE} (hl : PE X l tl) : PI X tg l (iSeq X.K tl) := by
  refine ⟨fun pins s σ H R I h => thn (hl.run pins s σ H _ I h) fun v s1 ⟨x, H1, I1, r1, q1⟩ => ?_⟩
  have own : ∀ b ∈ [s1.heap.objs.size], FpOk X pins H1 b := fun b hb => by
    rw [List.mem_singleton.mp hb]
    exact I1.fpOk (Nat.le_refl _) (I1.hok.fresh (Nat.le_refl _))
  obtain ⟨a, rfl, ⟨⟨xs, hq⟩, q⟩ | ⟨⟨xs, hq⟩, q⟩⟩ := q1
  · obtain rfl : v = Value.ref a := r1
    obtain ⟨its, _, p, _⟩ := I1.list hq
    exact wpAny_pyIter_list p.isList ⟨_, [s1.heap.objs.size], _, _, H1, rfl, I1.kept (t' := s1.toks) fun b o e => Heap.get?_push_of_some _ e, turn_list a _, ⟨_, Heap.get?_push_size _ rfl, rfl, rfl⟩, own, q⟩
  · obtain rfl : v = Value.ref a := r1
    obtain ⟨its, _, p, _⟩ := I1.tuple hq
    exact wpAny_pyIter_tuple (items := its.toArray) p ⟨_, [s1.heap.objs.size], _, _, H1, rfl, I1.kept (t' := s1.toks) fun b o e => Heap.get?_push_of_some _ e, turn_tuple a _, ⟨_, Heap.get?_push_size _ rfl, rfl, rfl⟩, own, q⟩

/-! ### statements: at the heap H1, over the ground H -/
section
variable {K : PySem.W.Frag} {P : Program} {w : World} {σ : L2.St} {H H1 : Hp} {te : TE} {tt : TT} {tb tz : TS} {D : Ends} {wi wi1 : TI} {xs : List V} {j : Nat} {vs vs1 : List Nat}
theorem s_forI (h : EvI wi σ H xs) (e1 : Ex H H1) (Pv : Hp → Nat → L2.St → Hp → Prop) (h0 : ∀ G H2, Ex H G → Ex H1 H2 → Ex G H2 → Pv G 0 σ H2)
    (hs : ∀ G i x σ' H', Ex H G → Ex G H' → xs[i]? = some x → Pv G i σ' H' → tb { D with nx := fun σ2 H2 => Ex G H2 ∧ Pv G (i + 1) σ2 H2, ct := fun σ2 H2 => Ex G H2 ∧ Pv G (i + 1) σ2 H2, bk := D.nx } (σ'.set j (some x)) H')
    (hd : ∀ G σ' H', Ex H G → Ex G H' → Pv G xs.length σ' H' → D.nx σ' H') : tFor wi (gName j) tb D σ H1 := h H1 e1 _ fun J H2 G e2 eG eG2 nG g => by
  refine ⟨fun i m σ' H' => i ≤ xs.length ∧ m = xs.length - i ∧ Ex G H' ∧ Pv G i σ' H', ⟨xs.length, Nat.zero_le _, by simp, eG2, h0 G H2 eG e2 eG2⟩, ?_⟩
  rintro i m σ' H' ⟨hi, rfl, c, p⟩
  cases q : xs[i]? with
  | some x =>
    have hlt := (List.getElem?_eq_some_iff.mp q).1
    refine .inr ⟨g.go i x H' q c, fun σ2 H2 => Ex G H2 ∧ Pv G (i + 1) σ2 H2, fun σ2 H2 p' => ⟨xs.length - (i + 1), by omega, hlt, rfl, p'⟩, fun y H2 hy => ?_⟩
    obtain ⟨rfl, rfl⟩ := g.yld i x H' y H2 q c hy
    exact hs G i _ _ _ eG c q p
  | none =>
    have z : i = xs.length := Nat.le_antisymm hi (List.getElem?_eq_none_iff.mp q)
    subst z
    exact .inl ⟨g.stop _ H' (Nat.le_refl _) c, hd G _ _ eG c p⟩
theorem q_forI (h : EvI wi σ H xs) (e1 : Ex H H1) (Pv : Hp → Nat → L2.St → Hp → Prop) (h0 : ∀ G H2, Ex H G → Ex H1 H2 → Ex G H2 → Pv G 0 σ H2)
    (hs : ∀ G i x σ' H', Ex H G → Ex G H' → xs[i]? = some x → Pv G i σ' H' → tb { D with nx := fun σ2 H2 => Ex G H2 ∧ Pv G (i + 1) σ2 H2, ct := fun σ2 H2 => Ex G H2 ∧ Pv G (i + 1) σ2 H2, bk := tz D } (σ'.set j (some x)) H')
    (hd : ∀ G σ' H', Ex H G → Ex G H' → Pv G xs.length σ' H' → tz D σ' H') : tSeq (tFor wi (gName j) tb) tz D σ H1 := s_forI (D := { D with nx := tz D }) h e1 Pv h0 hs hd

/-! ### comprehensions -/
theorem et_yes : EvT tYes σ H true := fun H1 _ Q q => q H1 (Ex.refl H1)

/-- what stands at D when the items ys have been gathered -/
def strV : V → PySem.Str
  | .str k => k
  | _ => Str.empty
def Kd.val (P : Program) (w : World) : Kd → Addr → List V → HO
  | .lst, _, ys => .lst ys
  | .set, D, ys => SetS P w D (intoSet [] (ys.map strV))
def Kd.fits : Kd → V → Prop
  | .lst, _ => True
  | .set, y => ∃ k, y = .str k
theorem Kd.val0 (kd : Kd) (D : Addr) : kd.val P w D [] = kd.ini P w D := by cases kd <;> rfl
theorem Kd.add_of (kd : Kd) {D : Addr} {H : Hp} {ys : List V} {y : V} {N : Hp → Prop} (hD : H D = some (kd.val P w D ys)) (hz : ys.length < 4000) (hf : kd.fits y) (hN : N (upd H D (kd.val P w D (ys ++ [y])))) : kd.add P w D H y N := by
  cases kd with
  | lst => exact ⟨ys, hD, sz_lt (by omega), hN⟩
  | set =>
    obtain ⟨k, rfl⟩ := hf
    refine ⟨_, k, rfl, hD, ?_, ?_⟩
    · have z := intoSet_len (ys.map strV) []
      rw [List.length_nil, List.length_map] at z
      exact scan4000 (by omega)
    · have e : (ys ++ [V.str k]).map strV = ys.map strV ++ [k] := by rw [List.map_append]; rfl
      have f : Kd.set.val P w D (ys ++ [V.str k]) = SetS P w D (if k ∈ intoSet [] (ys.map strV) then intoSet [] (ys.map strV) else k :: intoSet [] (ys.map strV)) := by
        show SetS P w D (intoSet [] ((ys ++ [V.str k]).map strV)) = _
        rw [e, intoSet_snoc]
      rw [f] at hN
      exact hN
/-- a new gathered thing -/
def EvK (P : Program) (w : World) (kd : Kd) (te : TE) (σ : L2.St) (H : Hp) (ys : List V) : Prop := ∀ H1, Ex H H1 → ∀ Q : VK, (∀ p H2, H1 p = none → Ex H1 H2 → H2 p = some (kd.val P w p ys) → Q (.ref p) H2) → te σ H1 Q
theorem EvK.lst {ys : List V} (h : EvK P w .lst te σ H ys) : EvL te σ H ys := h
theorem take_one {ys : List V} {i : Nat} {y : V} (h : ys[i]? = some y) : ys.take (i + 1) = ys.take i ++ [y] := by
  rw [List.take_add_one, h]; rfl
theorem take_len (ys : List V) (i : Nat) : (ys.take i).length ≤ ys.length := by rw [List.length_take]; omega

/-- one clause, no test -/
theorem ek_kc (kd : Kd) (ys : List V) (h : EvI wi σ H xs) (hl : ys.length = xs.length) (hz : xs.length ≤ 3000) (hf : ∀ y ∈ ys, kd.fits y) (hw : ∀ x, wipe ((wipe σ vs).set j (some x)) vs = wipe σ vs)
    (he : ∀ (i : Nat) (x y : V) H1, Ex H H1 → xs[i]? = some x → ys[i]? = some y → Ev te ((wipe σ vs).set j (some x)) H1 y) : EvK P w kd (tKc P w kd wi (gName j) tYes te vs) σ H ys := fun H0 e Q q => h H0 e _ fun J H1 G e1 eG eG1 nG g D hD => by
  refine turns (g := g) (Step := fun x H Nx => gName j x (wipe σ vs) H fun σ2 H2 => wipe σ2 vs = wipe σ vs ∧ tYes σ2 H2 fun b H3 => if b = true then te σ2 H3 fun y H4 => kd.add P w D H4 y Nx else Nx H3) (Qd := fun H => Q (.ref D) H)
    (fun i H' => Ex H1 H' ∧ H' D = some (kd.val P w D (ys.take i))) ⟨Ex.new hD, ?_⟩ (fun i H' _ p => eG1.trans p.1) (fun i x H' hx p => ⟨hw x, ?_⟩) (fun H' p => ?_)
  · rw [List.take_zero, kd.val0]; exact upd_same
  · have hi := (List.getElem?_eq_some_iff.mp hx).1
    have hyi : i < ys.length := by omega
    obtain ⟨y, hy⟩ : ∃ y, ys[i]? = some y := ⟨ys[i], List.getElem?_eq_getElem hyi⟩
    show te _ H' fun y H4 => kd.add P w D H4 y _
    refine he i x y H' ((e.trans e1).trans p.1) hx hy H' (Ex.refl _) _ fun H4 e4 => kd.add_of (e4 D _ p.2) (by have := take_len ys i; omega) (hf y (List.mem_of_getElem? hy)) ⟨Ex.mut (p.1.trans e4) hD, ?_⟩
    rw [upd_same, take_one hy]
  · refine q D H' (fresh_back e1 hD) (e1.trans p.1) ?_
    rw [p.2, ← hl, List.take_length]
/-- one clause and a test; f: which are taken -/
theorem ek_kcF (kd : Kd) (f : Nat → Bool) (v : Nat → V) (h : EvI wi σ H xs) (hz : xs.length ≤ 3000) (hf : ∀ i, kd.fits (v i)) (hw : ∀ x, wipe ((wipe σ vs).set j (some x)) vs = wipe σ vs)
    (ht : ∀ (i : Nat) (x : V) H1, Ex H H1 → xs[i]? = some x → EvT tt ((wipe σ vs).set j (some x)) H1 (f i))
    (he : ∀ (i : Nat) (x : V) H1, Ex H H1 → xs[i]? = some x → f i = true → Ev te ((wipe σ vs).set j (some x)) H1 (v i)) : EvK P w kd (tKc P w kd wi (gName j) tt te vs) σ H (given xs.length f v) := fun H0 e Q q => h H0 e _ fun J H1 G e1 eG eG1 nG g D hD => by
  refine turns (g := g) (Step := fun x H Nx => gName j x (wipe σ vs) H fun σ2 H2 => wipe σ2 vs = wipe σ vs ∧ tt σ2 H2 fun b H3 => if b = true then te σ2 H3 fun y H4 => kd.add P w D H4 y Nx else Nx H3) (Qd := fun H => Q (.ref D) H)
    (fun i H' => Ex H1 H' ∧ H' D = some (kd.val P w D (given i f v))) ⟨Ex.new hD, ?_⟩ (fun i H' _ p => eG1.trans p.1) (fun i x H' hx p => ⟨hw x, ?_⟩) (fun H' p => q D H' (fresh_back e1 hD) (e1.trans p.1) p.2)
  · show upd H1 D (kd.ini P w D) D = some (kd.val P w D [])
    rw [kd.val0]; exact upd_same
  · have hi := (List.getElem?_eq_some_iff.mp hx).1
    refine ht i x H' ((e.trans e1).trans p.1) hx H' (Ex.refl _) _ fun H3 e3 => ?_
    cases hfi : f i with
    | true =>
      show te _ H3 fun y H4 => kd.add P w D H4 y _
      refine he i x H3 (((e.trans e1).trans p.1).trans e3) hx hfi H3 (Ex.refl _) _ fun H4 e4 => kd.add_of (e4 D _ (e3 D _ p.2)) (by have := given_len i f v; omega) (hf i) ⟨Ex.mut ((p.1.trans e3).trans e4) hD, ?_⟩
      rw [upd_same, given_yes hfi]
    | false =>
      refine ⟨p.1.trans e3, ?_⟩
      rw [given_no hfi]
      exact e3 D _ p.2
/-- two clauses, no tests; ys i: what the outer item i gives; good i: its source does not raise -/
theorem ek_kc2x {j1 : Nat} (kd : Kd) (good : Nat → Prop) (zs ys : Nat → List V) (h : EvI wi σ H xs) (hl : ∀ i, i < xs.length → good i → (ys i).length = (zs i).length) (hz : ∀ i, i ≤ xs.length → ((List.range i).flatMap ys).length ≤ 3000) (hf : ∀ i, i < xs.length → ∀ y ∈ ys i, kd.fits y)
    (hw : ∀ x, wipe ((wipe σ vs).set j (some x)) vs = wipe σ vs) (hw1 : ∀ x z, wipe ((wipe ((wipe σ vs).set j (some x)) vs1).set j1 (some z)) vs1 = wipe ((wipe σ vs).set j (some x)) vs1)
    (hi : ∀ (i : Nat) (x : V) H1, Ex H H1 → xs[i]? = some x → good i → EvI wi1 ((wipe σ vs).set j (some x)) H1 (zs i))
    (hb : ∀ (i : Nat) (x : V) H1, Ex H H1 → xs[i]? = some x → ¬ good i → (∀ k, k < i → good k) → NevI wi1 ((wipe σ vs).set j (some x)) H1)
    (he : ∀ (i k : Nat) (x z y : V) H1, Ex H H1 → xs[i]? = some x → good i → (zs i)[k]? = some z → (ys i)[k]? = some y → Ev te ((wipe ((wipe σ vs).set j (some x)) vs1).set j1 (some z)) H1 y) :
    ∀ H0, Ex H H0 → ∀ Q : VK, ((∀ i, i < xs.length → good i) → ∀ p H2, H0 p = none → Ex H0 H2 → H2 p = some (kd.val P w p ((List.range xs.length).flatMap ys)) → Q (.ref p) H2) → tKc2 P w kd wi (gName j) tYes wi1 (gName j1) tYes te vs vs1 σ H0 Q := fun H0 e Q q => h H0 e _ fun J H1 G e1 eG eG1 nG g D hD => by
  refine turns (g := g) (Step := fun x H Nx => gName j x (wipe σ vs) H fun σ2 H2 => wipe σ2 vs = wipe σ vs ∧ tYes σ2 H2 fun b H3 => if b = true then wi1 σ2 H3 fun J1 H4 => ∃ W1 : Nat → Nat → Hp → Prop, (∃ m, W1 0 m H4) ∧ ∀ j k H, W1 j k H →
      (J1.stop j H ∧ Nx H) ∨ (J1.go j H ∧ ∃ Nx1 : Hp → Prop, (∀ H', Nx1 H' → ∃ k', k' < k ∧ W1 (j + 1) k' H') ∧ ∀ x H', J1.yld j H x H' → gName j1 x (wipe σ2 vs1) H' fun σ3 H5 => wipe σ3 vs1 = wipe σ2 vs1 ∧ tYes σ3 H5 fun b H6 =>
        if b = true then te σ3 H6 fun y H7 => kd.add P w D H7 y Nx1 else Nx1 H6) else Nx H3) (Qd := fun H => Q (.ref D) H)
    (fun i H' => (Ex H1 H' ∧ H' D = some (kd.val P w D ((List.range i).flatMap ys))) ∧ ∀ k, k < i → good k) ⟨⟨Ex.new hD, ?_⟩, fun k hk => absurd hk (Nat.not_lt_zero k)⟩ (fun i H' _ p => eG1.trans p.1.1) (fun i x H' hx p0 => ⟨hw x, ?_⟩) (fun H' p => q p.2 D H' (fresh_back e1 hD) (e1.trans p.1.1) p.1.2)
  · show upd H1 D (kd.ini P w D) D = some (kd.val P w D [])
    rw [kd.val0]; exact upd_same
  · have p := p0.1
    have hxi := (List.getElem?_eq_some_iff.mp hx).1
    refine (Classical.em (good i)).elim (fun gi => ?_) fun gi => hb i x H' ((e.trans e1).trans p.1) hx gi p0.2 H' (Ex.refl _) _
    have hlen := hz (i + 1) (by omega)
    have flat : (List.range (i + 1)).flatMap ys = (List.range i).flatMap ys ++ ys i := by rw [List.range_succ, List.flatMap_append]; simp
    rw [flat, List.length_append] at hlen
    refine hi i x H1 (e.trans e1) hx gi H' p.1 _ fun J1 H4 G1 e4 eG1' eG4 nG1 g1 => ?_
    have gD : G1 D = none := nG1 D hD (by rw [p.2]; exact fun z => nomatch z)
    refine turns (g := g1) (Step := fun x1 H Nx1 => gName j1 x1 (wipe ((wipe σ vs).set j (some x)) vs1) H fun σ3 H5 => wipe σ3 vs1 = wipe ((wipe σ vs).set j (some x)) vs1 ∧ tYes σ3 H5 fun b H6 => if b = true then te σ3 H6 fun y H7 => kd.add P w D H7 y Nx1 else Nx1 H6)
      (Qd := fun H2 => (Ex H1 H2 ∧ H2 D = some (kd.val P w D ((List.range (i + 1)).flatMap ys))) ∧ ∀ k, k < i + 1 → good k)
      (fun k H2 => (Ex G1 H2 ∧ Ex H1 H2) ∧ H2 D = some (kd.val P w D ((List.range i).flatMap ys ++ (ys i).take k))) ⟨⟨eG4, p.1.trans e4⟩, ?_⟩ (fun k H2 _ p2 => p2.1.1) (fun k z H2 hzk p2 => ⟨hw1 x z, ?_⟩) (fun H2 p2 => ⟨⟨p2.1.2, ?_⟩, fun k hk => (Nat.lt_succ_iff_lt_or_eq.mp hk).elim (p0.2 k) fun z => z ▸ gi⟩)
    · rw [List.take_zero, List.append_nil]; exact e4 D _ p.2
    · have hk := (List.getElem?_eq_some_iff.mp hzk).1
      have hyk : k < (ys i).length := by rw [hl i hxi gi]; exact hk
      obtain ⟨y, hy⟩ : ∃ y, (ys i)[k]? = some y := ⟨(ys i)[k], List.getElem?_eq_getElem hyk⟩
      show te _ H2 fun y H7 => kd.add P w D H7 y _
      refine he i k x z y H2 ((e.trans e1).trans p2.1.2) hx gi hzk hy H2 (Ex.refl _) _ fun H7 e7 => kd.add_of (e7 D _ p2.2) (by rw [List.length_append]; have := take_len (ys i) k; omega) (hf i hxi y (List.mem_of_getElem? hy)) ⟨⟨Ex.mut (p2.1.1.trans e7) gD, Ex.mut (p2.1.2.trans e7) hD⟩, ?_⟩
      rw [upd_same, take_one hy, List.append_assoc]
    · rw [p2.2, flat, ← hl i hxi gi, List.take_length]
theorem ek_kc2 {j1 : Nat} (kd : Kd) (zs ys : Nat → List V) (h : EvI wi σ H xs) (hl : ∀ i, i < xs.length → (ys i).length = (zs i).length) (hz : ∀ i, i ≤ xs.length → ((List.range i).flatMap ys).length ≤ 3000) (hf : ∀ i, i < xs.length → ∀ y ∈ ys i, kd.fits y)
    (hw : ∀ x, wipe ((wipe σ vs).set j (some x)) vs = wipe σ vs) (hw1 : ∀ x z, wipe ((wipe ((wipe σ vs).set j (some x)) vs1).set j1 (some z)) vs1 = wipe ((wipe σ vs).set j (some x)) vs1)
    (hi : ∀ (i : Nat) (x : V) H1, Ex H H1 → xs[i]? = some x → EvI wi1 ((wipe σ vs).set j (some x)) H1 (zs i))
    (he : ∀ (i k : Nat) (x z y : V) H1, Ex H H1 → xs[i]? = some x → (zs i)[k]? = some z → (ys i)[k]? = some y → Ev te ((wipe ((wipe σ vs).set j (some x)) vs1).set j1 (some z)) H1 y) :
    EvK P w kd (tKc2 P w kd wi (gName j) tYes wi1 (gName j1) tYes te vs vs1) σ H ((List.range xs.length).flatMap ys) := fun H0 e Q q =>
  ek_kc2x kd (fun _ => True) zs ys h (fun i hi _ => hl i hi) hz hf hw hw1 (fun i x H1 e1 hx _ => hi i x H1 e1 hx) (fun _ _ _ _ _ n _ => absurd True.intro n) (fun i k x z y H1 e1 hx _ hz hy => he i k x z y H1 e1 hx hz hy) H0 e Q fun _ => q
end
end TS
end
/-! TD2 -/
set_option linter.all false
set_option maxRecDepth 100000
set_option maxHeartbeats 4000000
noncomputable section
namespace TS
open PySem PySem.Spec PyProof.Rows L2 PySem.Froz Evl

/-! ### the order of texts; word order -/
abbrev Lx (x y : PySem.Str) : Prop := x.cps.toList < y.cps.toList
theorem lx_irr (x : PySem.Str) : ¬ Lx x x := List.lt_irrefl _
theorem lx_trans {x y z : PySem.Str} (h1 : Lx x y) (h2 : Lx y z) : Lx x z := List.lt_trans h1 h2
theorem lx_tri (x y : PySem.Str) : Lx x y ∨ x = y ∨ Lx y x := by
  by_cases h : Lx x y
  · exact .inl h
  · by_cases h' : Lx y x
    · exact .inr (.inr h')
    · refine .inr (.inl ?_)
      have e : x.cps.toList = y.cps.toList := List.le_antisymm (List.not_lt.mp h') (List.not_lt.mp h)
      obtain ⟨a⟩ := x
      obtain ⟨b⟩ := y
      simpa using e
theorem lx_le_trans {x y z : PySem.Str} (h1 : ¬ Lx y x) (h2 : ¬ Lx z y) : ¬ Lx z x := fun h => by
  rcases lx_tri x y with a | a | a
  · rcases lx_tri y z with b | b | b
    · exact lx_irr x (lx_trans (lx_trans a b) h)
    · rw [← b] at h; exact lx_irr x (lx_trans a h)
    · exact h2 b
  · rw [a] at h; exact h2 h
  · exact h1 a
theorem sortedS_pw : ∀ {l : List PySem.Str}, sortedS l = true → l.Pairwise fun x y => ¬ Lx y x
  | [], _ => List.Pairwise.nil
  | [x], _ => List.pairwise_singleton _ _
  | x :: y :: r, h => by
    have h' : (!ltCps y.cps.toList x.cps.toList && risingS y r) = true := h
    rw [Bool.and_eq_true] at h'
    have ih := sortedS_pw (l := y :: r) h'.2
    have hxy : ¬ Lx y x := by
      have z := h'.1
      rw [ltCps_eq] at z
      simpa using z
    refine List.Pairwise.cons (fun z hz => ?_) ih
    rcases List.mem_cons.mp hz with rfl | hz
    · exact hxy
    · exact lx_le_trans hxy ((List.pairwise_cons.mp ih).1 z hz)

/-- shorter, or as long and ahead in the order of texts -/
def Wlt (x y : PySem.Str) : Prop := x.length < y.length ∨ (x.length = y.length ∧ Lx x y)
theorem wlt_irr (x : PySem.Str) : ¬ Wlt x x := fun h => h.elim (Nat.lt_irrefl _) fun h => lx_irr x h.2
theorem wlt_asymm {x y : PySem.Str} (h : Wlt x y) (h' : Wlt y x) : False := by
  rcases h with h | ⟨e, h⟩ <;> rcases h' with h' | ⟨e', h'⟩
  · omega
  · omega
  · omega
  · exact lx_irr x (lx_trans h h')
/-- the texts of ss, each once, in word order -/
def WordOrd (ss ys : List PySem.Str) : Prop := ys.Pairwise Wlt ∧ ∀ k, k ∈ ys ↔ k ∈ ss
theorem pw_unique {α : Type} {R : α → α → Prop} (irr : ∀ x, ¬ R x x) (asy : ∀ x y, R x y → R y x → False) : ∀ {xs ys : List α}, xs.Pairwise R → ys.Pairwise R → (∀ k, k ∈ xs ↔ k ∈ ys) → xs = ys
  | [], [], _, _, _ => rfl
  | [], y :: ys, _, _, h => by have := (h y).mpr List.mem_cons_self; cases this
  | x :: xs, [], _, _, h => by have := (h x).mp List.mem_cons_self; cases this
  | x :: xs, y :: ys, hx, hy, h => by
    obtain ⟨hx1, hx2⟩ := List.pairwise_cons.mp hx
    obtain ⟨hy1, hy2⟩ := List.pairwise_cons.mp hy
    have e : x = y := by
      rcases List.mem_cons.mp ((h x).mp List.mem_cons_self) with e | m
      · exact e
      · rcases List.mem_cons.mp ((h y).mpr List.mem_cons_self) with e | m'
        · exact e.symm
        · exact (asy x y (hx1 y m') (hy1 x m)).elim
    subst e
    refine congrArg _ (pw_unique irr asy hx2 hy2 fun k => ⟨fun m => ?_, fun m => ?_⟩)
    · rcases List.mem_cons.mp ((h k).mp (List.mem_cons_of_mem _ m)) with e | m'
      · subst e; exact (irr _ (hx1 _ m)).elim
      · exact m'
    · rcases List.mem_cons.mp ((h k).mpr (List.mem_cons_of_mem _ m)) with e | m'
      · subst e; exact (irr _ (hy1 _ m)).elim
      · exact m'
theorem WordOrd.unique {ss tt xs ys : List PySem.Str} (h : WordOrd ss xs) (h' : WordOrd tt ys) (e : ∀ k, k ∈ ss ↔ k ∈ tt) : xs = ys :=
  pw_unique wlt_irr (fun _ _ => wlt_asymm) h.1 h'.1 fun k => (h.2 k).trans ((e k).trans (h'.2 k).symm)
/-- sorted by length, what was sorted before -/
theorem wordOrd_of {zs ys : List PySem.Str} (nd : zs.Nodup) (hz : zs.Pairwise fun x y => ¬ Lx y x) (hp : ys.Perm zs) (hl : ys.Pairwise fun x y => x.length ≤ y.length) (hf : ∀ n : Nat, ys.filter (fun x => x.length == n) = zs.filter (fun x => x.length == n)) : WordOrd zs ys := by
  refine ⟨?_, fun k => hp.mem_iff⟩
  have st : ∀ n : Nat, ys.Pairwise fun x y => x.length = n → y.length = n → ¬ Lx y x := fun n => by
    have q : (ys.filter fun x => x.length == n).Pairwise fun x y => ¬ Lx y x := by rw [hf n]; exact hz.filter _
    rw [List.pairwise_filter] at q
    exact q.imp fun h a b => h (by simpa using a) (by simpa using b)
  have ndy : ys.Nodup := hp.nodup_iff.mpr nd
  rw [List.pairwise_iff_getElem] at hl ⊢
  intro i j hi hj hij
  have a := hl i j hi hj hij
  rcases Nat.lt_or_eq_of_le a with b | b
  · exact .inl b
  · refine .inr ⟨b, ?_⟩
    have c := List.pairwise_iff_getElem.mp (st (ys[i]).length) i j hi hj hij rfl b.symm
    rcases lx_tri ys[i] ys[j] with d | d | d
    · exact d
    · exact absurd d (List.pairwise_iff_getElem.mp ndy i j hi hj hij)
    · exact absurd d c
theorem WordOrd.congr {ss tt ys : List PySem.Str} (h : WordOrd ss ys) (e : ∀ k, k ∈ ss ↔ k ∈ tt) : WordOrd tt ys := ⟨h.1, fun k => (h.2 k).trans (e k)⟩
/-- texts of one length -/
theorem wordOrd_one {zs : List PySem.Str} {n : Nat} (nd : zs.Nodup) (hz : zs.Pairwise fun x y => ¬ Lx y x) (h1 : ∀ k ∈ zs, k.length = n) : WordOrd zs zs := by
  refine ⟨?_, fun k => Iff.rfl⟩
  rw [List.pairwise_iff_getElem] at hz ⊢
  intro i j hi hj hij
  refine .inr ⟨(h1 _ (List.getElem_mem _)).trans (h1 _ (List.getElem_mem _)).symm, ?_⟩
  rcases lx_tri zs[i] zs[j] with d | d | d
  · exact d
  · exact absurd d (List.pairwise_iff_getElem.mp nd i j hi hj hij)
  · exact absurd d (hz i j hi hj hij)
open Classical in
/-- the list itself -/
def wordOrd (ss : List PySem.Str) : List PySem.Str := if h : ∃ ys, WordOrd ss ys then h.choose else []
theorem WordOrd.eq {ss ys : List PySem.Str} (h : WordOrd ss ys) : ys = wordOrd ss := by
  unfold wordOrd
  rw [dif_pos ⟨ys, h⟩]
  exact h.unique (Exists.choose_spec (⟨ys, h⟩ : ∃ ys, WordOrd ss ys)) fun k => Iff.rfl
theorem wordOrd_congr {ss tt : List PySem.Str} (e : ∀ k, k ∈ ss ↔ k ∈ tt) : wordOrd ss = wordOrd tt := by
  by_cases h : ∃ ys, WordOrd ss ys
  · obtain ⟨ys, h⟩ := h
    rw [← h.eq, ← (h.congr e).eq]
  · have h' : ¬ ∃ ys, WordOrd tt ys := fun ⟨ys, q⟩ => h ⟨ys, q.congr fun k => (e k).symm⟩
    unfold wordOrd
    rw [dif_neg h, dif_neg h']
end TS
end
/-! TD3 -/
set_option linter.all false
set_option maxRecDepth 100000
set_option maxHeartbeats 4000000
noncomputable section
namespace TS
open PySem PySem.Spec PyProof.Rows L2 PySem.Froz Evl

section
variable {K : PySem.W.Frag} {P : Program} {w : World} {σ : L2.St} {H H1 : Hp} {te : TE} {xs : List V} {ss : List PySem.Str}
theorem strV_map (ss : List PySem.Str) : (ss.map V.str).map strV = ss := by
  rw [List.map_map]
  exact (List.map_congr_left fun a _ => rfl).trans (List.map_id ss)
theorem into_nodup (ss : List PySem.Str) : (intoSet [] ss).Nodup := intoSet_nodup ss [] List.nodup_nil
theorem into_mem (ss : List PySem.Str) (k : PySem.Str) : k ∈ intoSet [] ss ↔ k ∈ ss := by
  rw [intoSet_mem]; simp
theorem into_len (ss : List PySem.Str) : (intoSet [] ss).length ≤ ss.length := by
  have z := intoSet_len ss []
  simpa using z

/-- set(x), x a list or a tuple of texts -/
theorem ek_setNew {x : V} (h : Ev te σ H x) (hx : SqE K H x (ss.map V.str)) (hz : ss.length ≤ 4000) : EvK P w .set (tCB (rSetNew P w K) (tCons te tNil)) σ H (ss.map V.str) := fun H1 e Q q => h H1 e _ fun H2 e2 => by
  obtain ⟨a, rfl, hs⟩ := hx
  have hT : TextsV K H2 (.ref a) ss := hs.elim (fun s => .inl ⟨a, rfl, ex_l (e.trans e2) s⟩) fun s => .inr (.inl ⟨a, rfl, ex_t (e.trans e2) s⟩)
  refine ⟨_, ss, rfl, hT, hz, fun p hp => q p _ (fresh_back e2 hp) (e2.trans (Ex.new hp)) ?_⟩
  rw [upd_same]
  show some (SetS P w p (intoSet [] ss)) = some (SetS P w p (intoSet [] ((ss.map V.str).map strV)))
  rw [strV_map]
/-- sorted(a set of texts) -/
theorem el_sortSet (h : EvK P w .set te σ H (ss.map V.str)) (hz : ss.length ≤ 4000) (H1 : Hp) (e : Ex H H1) (Q : VK)
    (q : ∀ (zs : List PySem.Str) (p : Addr) (H2 : Hp), zs.Nodup → zs.Pairwise (fun x y => ¬ Lx y x) → (∀ k, k ∈ zs ↔ k ∈ ss) → H1 p = none → Ex H1 H2 → H2 p = some (.lst (zs.map V.str)) → Q (.ref p) H2) : tCB (rSortedSet P w) (tCons te tNil) σ H1 Q :=
  h H1 e _ fun p H2 hp e2 h2 => by
    have h2' : H2 p = some (SetS P w p (intoSet [] ss)) := by
      rw [h2]
      show some (SetS P w p (intoSet [] ((ss.map V.str).map strV))) = _
      rw [strV_map]
    refine ⟨p, intoSet [] ss, rfl, h2', into_nodup ss, Nat.le_trans (into_len ss) hz, fun ys l hy hs hl => ?_⟩
    exact q ys l _ (hy.nodup_iff.mpr (into_nodup ss)) (sortedS_pw hs) (fun k => hy.mem_iff.trans (into_mem ss k)) (fresh_back e2 hl) (e2.trans (Ex.new hl)) upd_same
/-- sorted(a set of texts of one length) -/
theorem el_sortOne {n : Nat} (h : EvK P w .set te σ H (ss.map V.str)) (hz : ss.length ≤ 4000) (h1 : ∀ k ∈ ss, k.length = n) : EvL (tCB (rSortedSet P w) (tCons te tNil)) σ H ((wordOrd ss).map V.str) := fun H1 e Q q =>
  el_sortSet h hz H1 e Q fun zs p H2 nd pw mem hp e2 h2 => q p H2 hp e2 (by
    rw [h2, ((wordOrd_one nd pw fun k hk => h1 k ((mem k).mp hk)).congr mem).eq])
/-- sorted(sorted(set(x)), key=len) -/
theorem el_wordSet (h : EvK P w .set te σ H (ss.map V.str)) (hz : ss.length ≤ 4000) (hb : ∀ z ∈ ss, z.length ≤ 1000000) : EvL (tKey (rSortLen K) (tCB (rSortedSet P w) (tCons te tNil))) σ H ((wordOrd ss).map V.str) := fun H1 e Q q =>
  el_sortSet h hz H1 e _ fun zs p H2 nd pw mem hp e2 h2 => by
    refine ⟨p, zs, rfl, sq_of h2, fun z hz => hb z ((mem z).mp hz), fun ys l y1 y2 y3 hl => q l _ (fresh_back e2 hl) (e2.trans (Ex.new hl)) ?_⟩
    rw [upd_same, ((wordOrd_of nd pw y1 y2 y3).congr mem).eq]
/-- sorted(sorted(found, key=str), key=len), no text twice -/
theorem el_wordList {a : Addr} (h : Ev te σ H (.ref a)) (hx : SqL K H a (ss.map V.str)) (nd : ss.Nodup) (hb : ∀ z ∈ ss, z.length ≤ 1000000) : EvL (tKey (rSortLen K) (tKey (rSortStr K) te)) σ H ((wordOrd ss).map V.str) := fun H1 e Q q =>
  h H1 e _ fun H2 e2 => ⟨a, ss, rfl, ex_l (e.trans e2) hx, fun zs p z1 z2 hp => ⟨p, zs, rfl, sq_of upd_same, fun z hz => hb z (z1.mem_iff.mp hz), fun ys l y1 y2 y3 hl => q l _ (fresh_back (e2.trans (Ex.new hp)) hl) ((e2.trans (Ex.new hp)).trans (Ex.new hl)) (by
    rw [upd_same, ((wordOrd_of (z1.nodup_iff.mpr nd) z2 y1 y2 y3).congr fun k => z1.mem_iff).eq])⟩⟩
end
end TS
end
/-! TX1 -/
set_option linter.all false
set_option maxRecDepth 100000
set_option maxHeartbeats 4000000
noncomputable section
namespace TS
open PySem PySem.Spec PyProof.Rows L2 PySem.Froz Evl

/-- what is asked of an own exception class with its own __init__ -/
structure XC (K : PySem.W.Frag) (C : Addr) : Prop where
  oex : OexC K C
  cl : (PySem.W.clsIn K C).isSome = true
  ga : PySem.W.findIn K (.ref C) "__getattribute__" = some (some (.builtin "BaseException.__getattribute__"))
  gg : PySem.W.findIn K (.ref C) "__getattr__" = some none
  ha : PySem.W.findIn K (.ref C) "__class__" = some (some (.builtin "object.__class__"))
  hn : PySem.W.specialIn K (.builtin "object.__class__") "__get__" = some (some (.builtin "getset_descriptor.__get__"))
  ht : PySem.W.takesIn K (.builtin "object.__class__") = some true
  hm : PySem.W.mroIn K C (.type "object") = some true
  hd : PySem.W.hasDictIn K C = true

/-- the exception's dict, where it has one -/
def XDict (H : Hp) (d : Option Addr) : Prop := d = none ∨ ∃ dx fs, d = some dx ∧ (H dx = some (exd dx fs) ∨ H dx = some (.xd fs))
theorem XDict.mono {H H' : Hp} {d : Option Addr} (e : Ex H H') (h : XDict H d) : XDict H' d := by
  rcases h with h | ⟨dx, fs, h, h1 | h1⟩
  · exact .inl h
  · exact .inr ⟨dx, fs, h, .inl (e _ _ h1)⟩
  · exact .inr ⟨dx, fs, h, .inr (e _ _ h1)⟩
theorem xdict_ns {P : Program} {w : World} {H : Hp} {h : Heap} {dx : Addr} {fs : List (PySem.Str × V)} (hok : HOk P w H h) (h1 : H dx = some (exd dx fs) ∨ H dx = some (.xd fs)) : ∃ mA, h.Ns1 dx mA ∧ ∀ f, RelO (fs.lookup f) (mA f) := by
  rcases h1 with h1 | h1
  · exact exd_at hok h1
  · exact hok dx _ h1
theorem xinst {P : Program} {w : World} {H : Hp} {h : Heap} {a C : Addr} {oe : Obj} {d : Option Addr} (hok : HOk P w H h) (hx : XDict H d) (ho : h.get? a = some oe) (hz : Zc (.ref C) d oe) (hf : ∃ vs, oe.data = .fields vs) : ∃ od, PySem.W.InstAt h a oe C od := by
  obtain ⟨vs, hv⟩ := hf
  have n : PySem.W.notCls oe := by unfold PySem.W.notCls; rw [hv] <;> trivial
  rcases hx with rfl | ⟨dx, fs, rfl, h1⟩
  · exact ⟨none, ho, hz.1, n, by rw [hz.2]; trivial⟩
  · obtain ⟨mA, hns, _⟩ := xdict_ns hok h1
    obtain ⟨od, hd, _⟩ := lookIn_ns hns
    exact ⟨some od, ho, hz.1, n, by rw [hz.2]; exact hd⟩
theorem XC.kit {K : PySem.W.Frag} {C a : Addr} {oe : Obj} {od : Option Obj} (T : XC K C) : PySem.W.KitX K (.ref a) (.ref C) fun h => PySem.W.InstAt h a oe C od := PySem.W.kitx_exc T.cl T.ga T.gg T.oex.exC T.ha T.hn T.ht T.hm

/-! ### isinstance of an exception that is a value, of one that is caught -/
def IsOne (K : PySem.W.Frag) (C : Addr) (c : V) (b : Bool) : Prop := ∃ u, ClsV c u ∧ PySem.W.kitOne K (.ref C) u = some b
def IsTup (K : PySem.W.Frag) (C : Addr) (cs : List V) (b : Bool) : Prop := ∃ us, Paired ClsV cs us ∧ PySem.W.kitAny K (.ref C) us = some b
def rIsX (K : PySem.W.Frag) : List V → Hp → VK → Prop := fun xs H Q => ∃ (a C : Addr) (d : Option Addr) (c : V) (b : Bool), xs = [.ref a, c] ∧ XC K C ∧ H a = some (exo a C d) ∧ XDict H d ∧ IsOne K C c b ∧ Q (.bl b) H
def rIsC (K : PySem.W.Frag) (a : Addr) (cls : Value) (d : Option Addr) : List V → Hp → VK → Prop := fun xs H Q => ∃ (C : Addr) (c : V) (b : Bool), xs = [.ref a, c] ∧ cls = .ref C ∧ XC K C ∧ XDict H d ∧ IsOne K C c b ∧ Q (.bl b) H
def rIsCT (K : PySem.W.Frag) (a : Addr) (cls : Value) (d : Option Addr) : List V → Hp → VK → Prop := fun xs H Q => ∃ (C tp : Addr) (cs : List V) (b : Bool), xs = [.ref a, .ref tp] ∧ cls = .ref C ∧ XC K C ∧ XDict H d ∧ H tp = some (.tup cs) ∧ IsTup K C cs b ∧ Q (.bl b) H
section
variable {X : Cx}
theorem call_isX : CallR X (.builtin "isinstance") (rIsX X.K) := by
  intro pins s σ H xs us Q I r h
  obtain ⟨a, C, d, c, b, rfl, T, ha, hx, ⟨u, k, e⟩, q⟩ := h
  obtain ⟨u1, u2, rfl, r1, r2⟩ := vals2 r
  obtain rfl : u1 = Value.ref a := r1
  have e2 := k.eq r2
  subst e2
  obtain ⟨t1, ho⟩ := exo_at I.hok ha
  obtain ⟨od, J⟩ := xinst I.hok hx ho ⟨rfl, rfl⟩ ⟨_, rfl⟩
  exact PySem.W.kia_one T.kit I.kIn J e (fun z => nomatch z) fun tk => ⟨.bl b, H, I.tok tk, rfl, q⟩
variable {a : Addr} {oe : Obj} {cls : Value} {d : Option Addr} {pn : List (Addr × Obj)}
theorem call_isC (hz : Zc cls d oe) (hf : ∃ vs, oe.data = .fields vs) : CallR (X.suite a ((a, oe) :: pn)) (.builtin "isinstance") (rIsC X.K a cls d) := by
  intro pins s σ H xs us Q I r h
  obtain ⟨C, c, b, rfl, rfl, T, hx, ⟨u, k, e⟩, q⟩ := h
  obtain ⟨u1, u2, rfl, r1, r2⟩ := vals2 r
  obtain rfl : u1 = Value.ref a := r1
  have e2 := k.eq r2
  subst e2
  obtain ⟨ho, _⟩ := I.pin (a, oe) (List.mem_append_left _ List.mem_cons_self)
  obtain ⟨od, J⟩ := xinst I.hok hx ho hz hf
  exact PySem.W.kia_one T.kit I.kIn J e (fun z => nomatch z) fun tk => ⟨.bl b, H, I.tok tk, rfl, q⟩
theorem call_isCT (hz : Zc cls d oe) (hf : ∃ vs, oe.data = .fields vs) : CallR (X.suite a ((a, oe) :: pn)) (.builtin "isinstance") (rIsCT X.K a cls d) := by
  intro pins s σ H xs us Q I r h
  obtain ⟨C, tp, cs, b, rfl, rfl, T, hx, hT, ⟨ws, k, e⟩, q⟩ := h
  obtain ⟨u1, u2, rfl, r1, r2⟩ := vals2 r
  obtain rfl : u1 = Value.ref a := r1
  obtain rfl : u2 = Value.ref tp := r2
  obtain ⟨ho, _⟩ := I.pin (a, oe) (List.mem_append_left _ List.mem_cons_self)
  obtain ⟨od, J⟩ := xinst I.hok hx ho hz hf
  obtain ⟨_, its, rv, o, h1, h2, n, h3⟩ := I.hok tp _ hT
  have e3 := ClsV.all k rv
  subst e3
  obtain ⟨oc, od', dt, sl⟩ := o
  simp only at h2 h3
  subst h2 h3
  exact PySem.W.kia_tup T.kit I.kIn J h1 e (fun z => nomatch z) fun tk => ⟨.bl b, H, I.tok tk, rfl, q⟩

/-! ### a field of an exception that is a value -/
def tXv (K : PySem.W.Frag) (n : PySem.Str) (te : TE) : TE := fun σ H Q => te σ H fun x H1 => ∃ (a C dx : Addr) (fs : List (PySem.Str × V)) (v : V), x = .ref a ∧ XC K C ∧ PySem.W.findIn K (.ref C) n = some none ∧ H1 a = some (exo a C (some dx)) ∧ H1 dx = some (exd dx fs) ∧ fs.lookup n = some v ∧ Q v H1
theorem pe_xv {e : Expr} {te : TE} {pos : Pos} {n : PySem.Str} (he : PE X e te) (hb : attributeBase e n X.env (eval e X.env) = eval e X.env := by rfl) : PE X (.Attribute e n pos) (tXv X.K n te) := by
  refine ⟨fun pins s σ H Q I h => attr_of hb (thn (he.run pins s σ H _ I h) fun u s1 hh => ?_)⟩
  obtain ⟨x, H1, I1, rx, a, C, dx, fs, v, rfl, T, hno, ha, hd, l, q⟩ := hh
  obtain rfl : u = Value.ref a := rx
  obtain ⟨t1, ho⟩ := exo_at I1.hok ha
  obtain ⟨mA, hns, hr⟩ := exd_at I1.hok hd
  obtain ⟨od, hod, hl⟩ := lookIn_ns hns
  obtain ⟨u, hu, ru⟩ := RelO.some_of (v := v) (o := mA n) (by rw [← l]; exact hr n)
  exact HandSPX.exc_get I1.kIn ⟨ho, rfl, rfl, hod⟩ T.ga T.gg T.oex.exC (PySem.W.findObj_own T.hd hno rfl (by rw [hl, hu])) (handed_of ru) ⟨v, H1, I1.tok _, ru, q⟩

/-! ### C(..), C's own __init__ keeping its promise, as a value -/
def tMkV (C : Addr) (sp : Sp) (dvs : List V) (ta : TA) : TE := fun σ H Q => ta σ H fun vs H1 => vs.length ≤ 1000 ∧ ∀ a, H1 a = none → sp (.ref a :: (vs ++ dvs)) (upd H1 a (exo a C none)) (fun v H2 => v = .non ∧ Q (.ref a) H2) (fun _ _ _ => False)
theorem mkv_run {CX : CXT} {C fI : Addr} {k : Nat} {fd : FuncData} {ps : List PySem.Str} {sp : Sp} {ds : List Value} {dvs : List V} (T : OexC X.K C) (iC : PySem.W.findIn X.K (.ref C) "__init__" = some (some (.ref fI))) (tI : PySem.W.typeIn X.K (.ref fI) = some (.type "function"))
    (F1 : FnOk X.prog X.w X.K X.mg X.base CX k fI fd ps sp) (hr : Room (k + 1) X.A) (hb : Binds X.K fd ps ds) (hd : Vals dvs ds) (hx : Passes CX X (fun _ _ _ => False)) {pins : List (Addr × Obj)} {s1 : Shared} {σ : L2.St} {H1 : Hp} {Q : VK} {vs : List V} {us : List Value} (I1 : Inv X pins σ H1 s1) (r1 : Vals vs us)
    (hz : vs.length ≤ 1000) (q1 : ∀ a, H1 a = none → sp (.ref a :: (vs ++ dvs)) (upd H1 a (exo a C none)) (fun v H2 => v = .non ∧ Q (.ref a) H2) (fun _ _ _ => False)) : wpAny (model X.prog X.w) X.A (call (.ref C) us) (EP X pins σ Q) X.xe s1 := by
  obtain ⟨nm, q, N, bs, bm, sn, sub, ab, col, dd, k0, k1, k2, k3, k5, hC, hbm⟩ := T.cls
  obtain ⟨hp, g, dr, tk, os⟩ := s1
  have hn : H1 (hp.objs.size + 1) = none := I1.hok.fresh (Nat.le_succ _)
  have hq := q1 (hp.objs.size + 1) hn
  have kk : ∀ b o, hp.get? b = some o → ((hp.push (PySem.W.kdv_tup us)).push (PySem.HandSPX.excO C hp.objs.size)).get? b = some o := fun b o e => Heap.get?_push_of_some _ (Heap.get?_push_of_some _ e)
  have hget : ((hp.push (PySem.W.kdv_tup us)).push (PySem.HandSPX.excO C hp.objs.size)).get? (hp.objs.size + 1) = some (PySem.HandSPX.excO C hp.objs.size) := by heap_get
  have I2 := I1.laid (t' := tk) (a := hp.objs.size + 1) (o := exo (hp.objs.size + 1) C none) kk (Nat.le_succ _) (exo_ok hget)
  have r2 : Vals (V.ref (hp.objs.size + 1) :: (vs ++ dvs)) (Value.ref (hp.objs.size + 1) :: (us ++ ds)) := .cons rfl (r1.append hd)
  have hl : (Value.ref (hp.objs.size + 1) :: us ++ ds).length = ps.length := r2.length.symm.trans (F1.len _ _ _ _ hq)
  have hus : us.length ≤ sizeLine := by rw [← Paired.length r1, sizeLine_eq]; omega
  refine wpAny_call (PySem.HandSPX.call_own F.excBase_ValueError (fun Y => PySem.HandSPX.refsVE_contains Y bm hbm) (I1.kIn _ _ hC) (PySem.W.looks_findIn I1.kIn iC) (fun self => PySem.W.bind_fn I1.kIn self tI) hus
    (codeAny_mono (F1.run _ X.stack _ _ ⟨Value.ref (hp.objs.size + 1) :: us, []⟩ (Value.ref (hp.objs.size + 1) :: (us ++ ds)) _ _ (fun _ _ _ => False) (hr.make C us []) (I2.env0.make C us []) (hb _ (Value.ref (hp.objs.size + 1) :: us) I2.kIn hl) r2 hq) fun r s' hq' => ?_))
  match r, hq' with
  | .error er, hq' => exact hx pins σ _ _ er s' I2 hq'
  | .ok (.ret u), hq' =>
    obtain ⟨v, H2, os2, bare2, un2, hok2, rv, ev, q2⟩ := hq'
    subst ev
    exact ⟨rv, .ref (hp.objs.size + 1), H2, I2.call' (ch := []) os2 un2 hok2 bare2 (fun _ z => nomatch z), rfl, q2⟩
  | .ok .next, hq' => exact False.elim hq'
  | .ok .brk, hq' => exact False.elim hq'
  | .ok .cont, hq' => exact False.elim hq'
end
end TS
end
/-! TX2 -/
set_option linter.all false
set_option maxRecDepth 100000
set_option maxHeartbeats 4000000
noncomputable section
namespace TS
open PySem PySem.Spec PyProof.Rows L2 PySem.Froz Evl

/-- the fields that __init__(self, f, g, ..) lays, the last one first -/
def flds (fns : List PySem.Str) (ys : List V) : List (PySem.Str × V) := (fns.zip ys).reverse
/-- __init__ of the class at C: self.f = f, for each of fns -/
def spInit (C : Addr) (fns : List PySem.Str) : Sp := fun vs H Q _ => ∃ (a : Addr) (ys : List V), vs = .ref a :: ys ∧ ys.length = fns.length ∧ H a = some (exo a C none) ∧ (fns = [] → Q .non H) ∧
  ∀ (dx : Addr) (H' : Hp), H dx = none → dx ≠ a → (∀ b o, b ≠ a → H b = some o → H' b = some o) → H' a = some (exo a C (some dx)) → H' dx = some (exd dx (flds fns ys)) → Q .non H'

/-- an exception of the class at C with these fields -/
def XAt (H : Hp) (x : V) (C : Addr) (fs : List (PySem.Str × V)) : Prop := ∃ (a : Addr) (d : Option Addr), x = .ref a ∧ H a = some (exo a C d) ∧ ((d = none ∧ fs = []) ∨ ∃ dx, d = some dx ∧ H dx = some (exd dx fs))
theorem XAt.mono {H H' : Hp} {x : V} {C : Addr} {fs : List (PySem.Str × V)} (e : Ex H H') (h : XAt H x C fs) : XAt H' x C fs := by
  obtain ⟨a, d, rfl, h1, h2⟩ := h
  refine ⟨a, d, rfl, e _ _ h1, h2.elim .inl fun ⟨dx, h3, h4⟩ => .inr ⟨dx, h3, e _ _ h4⟩⟩
theorem XAt.dict {H : Hp} {x : V} {C : Addr} {fs : List (PySem.Str × V)} (h : XAt H x C fs) : ∃ a d, x = .ref a ∧ H a = some (exo a C d) ∧ XDict H d := by
  obtain ⟨a, d, rfl, h1, h2⟩ := h
  exact ⟨a, d, rfl, h1, h2.elim (fun z => .inl z.1) fun ⟨dx, h3, h4⟩ => .inr ⟨dx, fs, h3, .inl h4⟩⟩

section
variable {X : Cx} {e : Expr} {es : List Expr} {ta : TA} {p pos : Pos}
theorem pe_mkv {CX : CXT} {x : PySem.Str} {C fI : Addr} {k : Nat} {fd : FuncData} {ps : List PySem.Str} {sp : Sp} {ds : List Value} {dvs : List V} (T : OexC X.K C) (iC : PySem.W.findIn X.K (.ref C) "__init__" = some (some (.ref fI))) (tI : PySem.W.typeIn X.K (.ref fI) = some (.type "function"))
    (F1 : FnOk X.prog X.w X.K X.mg X.base CX k fI fd ps sp) (hr : Room (k + 1) X.A) (hb : Binds X.K fd ps ds) (hd : Vals dvs ds) (hx : Passes CX X (fun _ _ _ => False)) (hg : Gl X x) (hm : X.mg x = some (.ref C)) (ha : PA X (e :: es) ta)
    (hdb : (x == ("__debug__" : PySem.Str)) = false := by decide) (he : starEach (e :: es) X.env = (false, eval e X.env) :: starEach es X.env := by rfl) (hpl : (backTo pos (starEach es X.env)).any (·.1) = false := by rfl) :
    PE X (.Call (.Name x p) (e :: es) [] pos) (tMkV C sp dvs ta) := by
  refine ⟨fun pins s σ H Q I h => wpAny_Call_Name_kw (ld_glob I hg hm ?_ hdb)⟩
  exact PySem.W.callWith_K (h₀ := X.base) I.ok.mod.kin T.kC (thn (ha.run pos pins s σ H _ I h) fun us s1 ⟨vs, H1, I1, r1, hz, q1⟩ => ⟨I1.kIn, mkv_run T iC tI F1 hr hb hd hx I1 r1 hz q1⟩) he hpl
theorem pe_mkv0 {CX : CXT} {x : PySem.Str} {C fI : Addr} {k : Nat} {fd : FuncData} {ps : List PySem.Str} {sp : Sp} {ds : List Value} {dvs : List V} (T : OexC X.K C) (iC : PySem.W.findIn X.K (.ref C) "__init__" = some (some (.ref fI))) (tI : PySem.W.typeIn X.K (.ref fI) = some (.type "function"))
    (F1 : FnOk X.prog X.w X.K X.mg X.base CX k fI fd ps sp) (hr : Room (k + 1) X.A) (hb : Binds X.K fd ps ds) (hd : Vals dvs ds) (hx : Passes CX X (fun _ _ _ => False)) (hg : Gl X x) (hm : X.mg x = some (.ref C))
    (hdb : (x == ("__debug__" : PySem.Str)) = false := by decide) :
    PE X (.Call (.Name x p) [] [] pos) (tMkV C sp dvs tNil) := by
  refine ⟨fun pins s σ H Q I h => wpAny_Call_Name_kw (ld_glob I hg hm ?_ hdb)⟩
  have z := mkv_run (us := []) (vs := []) T iC tI F1 hr hb hd hx I .nil h.1 h.2
  exact PySem.W.callWith_K0 I.kIn T.kC z
end

/-! ### values of which something is true that stays so -/
def EvP (te : TE) (σ : L2.St) (H : Hp) (P : V → Hp → Prop) : Prop := ∀ H1, Ex H H1 → ∀ Q : VK, (∀ v H2, Ex H1 H2 → P v H2 → Q v H2) → te σ H1 Q
def EvAP (ta : TA) (σ : L2.St) (H : Hp) (P : List V → Hp → Prop) : Prop := ∀ H1, Ex H H1 → ∀ Q : List V → Hp → Prop, (∀ vs H2, Ex H1 H2 → P vs H2 → Q vs H2) → ta σ H1 Q
/-- a property of the values that stays -/
def Stays {α : Type} (P : α → Hp → Prop) : Prop := ∀ v H H', Ex H H' → P v H → P v H'
/-- xs one by one -/
inductive AllP {β : Type} (P : V → β → Hp → Prop) : List V → List β → Hp → Prop where
  | nil {H : Hp} : AllP P [] [] H
  | cons {H : Hp} {x : V} {b : β} {xs : List V} {bs : List β} (h : P x b H) (t : AllP P xs bs H) : AllP P (x :: xs) (b :: bs) H
theorem AllP.len {β : Type} {P : V → β → Hp → Prop} : ∀ {xs : List V} {bs : List β} {H : Hp}, AllP P xs bs H → xs.length = bs.length
  | _, _, _, .nil => rfl
  | _, _, _, .cons _ t => congrArg (· + 1) t.len
theorem AllP.at {β : Type} {P : V → β → Hp → Prop} : ∀ {xs : List V} {bs : List β} {H : Hp} {i : Nat} {b : β}, AllP P xs bs H → bs[i]? = some b → ∃ x, xs[i]? = some x ∧ P x b H
  | _, _, _, _, _, .nil, h => by simp at h
  | _, _, _, 0, _, .cons p _, h => by simp at h; subst h; exact ⟨_, rfl, p⟩
  | _, _, _, i + 1, _, .cons _ t, h => by
    obtain ⟨x, h1, h2⟩ := AllP.at (i := i) t (by simpa using h)
    exact ⟨x, by simpa using h1, h2⟩
theorem AllP.mono {β : Type} {P : V → β → Hp → Prop} (st : ∀ x b H H', Ex H H' → P x b H → P x b H') : ∀ {xs : List V} {bs : List β} {H H' : Hp}, Ex H H' → AllP P xs bs H → AllP P xs bs H'
  | _, _, _, _, _, .nil => .nil
  | _, _, _, _, e, .cons p t => .cons (st _ _ _ _ e p) (AllP.mono st e t)
theorem AllP.app {β : Type} {P : V → β → Hp → Prop} {ys : List V} {cs : List β} {H : Hp} (h2 : AllP P ys cs H) : ∀ {xs : List V} {bs : List β}, AllP P xs bs H → AllP P (xs ++ ys) (bs ++ cs) H
  | _, _, .nil => h2
  | _, _, .cons p t => .cons p (AllP.app h2 t)
section
variable {K : PySem.W.Frag} {σ : L2.St} {H : Hp} {te : TE} {ta tr : TA} {β : Type} {P : V → β → Hp → Prop}
theorem eap_nil : EvAP tNil σ H fun vs H' => AllP P vs ([] : List β) H' := fun H1 _ Q q => q [] H1 (Ex.refl H1) .nil
theorem eap_cons {b : β} {bs : List β} (st : ∀ x b H H', Ex H H' → P x b H → P x b H') (h : EvP te σ H fun v H' => P v b H') (hr : EvAP tr σ H fun vs H' => AllP P vs bs H') : EvAP (tCons te tr) σ H fun vs H' => AllP P vs (b :: bs) H' := fun H1 e Q q =>
  h H1 e _ fun v H2 e2 p => hr H2 (e.trans e2) _ fun vs H3 e3 a => q _ H3 (e2.trans e3) (.cons (st _ _ _ _ e3 p) a)
/-- a new list whose items are so -/
def EvLP (te : TE) (σ : L2.St) (H : Hp) (PL : List V → Hp → Prop) : Prop := ∀ H1, Ex H H1 → ∀ Q : VK, (∀ p vs H2, H1 p = none → Ex H1 H2 → H2 p = some (.lst vs) → PL vs H2 → Q (.ref p) H2) → te σ H1 Q
theorem elp_lst {bs : List β} (st : ∀ x b H H', Ex H H' → P x b H → P x b H') (h : EvAP ta σ H fun vs H' => AllP P vs bs H') (hl : bs.length ≤ 1000) : EvLP (tLst ta) σ H fun vs H' => AllP P vs bs H' := fun H1 e Q q =>
  h H1 e _ fun vs H2 e2 a => ⟨sz_of (by rw [a.len]; omega), fun p hp => q p vs _ (fresh_back e2 hp) (e2.trans (Ex.new hp)) upd_same (a.mono st (Ex.new hp))⟩
theorem evp_mkv {C : Addr} {fns : List PySem.Str} {ys : List V} (h : EvA ta σ H ys) (hl : ys.length = fns.length) (hz : ys.length ≤ 1000) : EvP (tMkV C (spInit C fns) [] ta) σ H fun x H' => XAt H' x C (flds fns ys) := fun H1 e Q q => h H1 e _ fun H2 e2 => by
  refine ⟨hz, fun a ha => ⟨a, ys ++ [], rfl, by rw [List.append_nil]; exact hl, upd_same, fun hn => ⟨rfl, ?_⟩, fun dx H' hd hne kp h1 h2 => ⟨rfl, ?_⟩⟩⟩
  · refine q _ _ (e2.trans (Ex.new ha)) ⟨a, none, rfl, upd_same, .inl ⟨rfl, ?_⟩⟩
    rw [hn]; rfl
  · rw [List.append_nil] at h2
    have k : Ex H2 H' := fun b o z => by
      have ne : b ≠ a := fun q => by rw [q, ha] at z; cases z
      exact kp b o ne (by rw [upd_ne ne]; exact z)
    exact q _ _ (e2.trans k) ⟨a, some dx, rfl, h1, .inr ⟨dx, rfl, h2⟩⟩

/-! ### what a def that raises promises -/
def RaiseF (C : Addr) (fs : List (PySem.Str × V)) (H : Hp) (E : XK) : Prop := ∀ (d : Addr) (H2 : Hp), H d = none → Ex H H2 → H2 d = some (.xd fs) → E (.ref C) (some d) H2
theorem RaiseF.go {C : Addr} {fs : List (PySem.Str × V)} {H' : Hp} {E : XK} (h : RaiseF C fs H E) (e : Ex H H') : RaiseF C fs H' E := fun d H2 hd e2 h2 => h d H2 (fresh_back e hd) (e.trans e2) h2
theorem mko_raise {C : Addr} {fns : List PySem.Str} {ys : List V} {H1 : Hp} {Q : XK} (h : EvA ta σ H ys) (hl : ys.length = fns.length) (hz : ys.length ≤ 1000) (hn : fns ≠ []) (e : Ex H H1) (q : RaiseF C (flds fns ys) H1 Q) : tMkO C (spInit C fns) [] ta σ H1 Q :=
  h H1 e _ fun H2 e2 => ⟨hz, fun a ha => ⟨a, ys ++ [], rfl, by rw [List.append_nil]; exact hl, upd_same, fun z => absurd z hn, fun dx H' hd hne kp h1 h2 => by
    rw [List.append_nil] at h2
    have hd2 : H2 dx = none := by rw [upd_ne hne] at hd; exact hd
    refine ⟨rfl, dx, _, h1, h2, hd2, q dx _ (fresh_back e2 hd2) (e2.trans fun b o z => ?_) upd_same⟩
    have na : b ≠ a := fun q => by rw [q, ha] at z; cases z
    have nd : b ≠ dx := fun q => by rw [q, hd2] at z; cases z
    rw [upd_ne nd, del_ne na]
    exact kp b o na (by rw [upd_ne na]; exact z)⟩⟩
end
end TS
end
/-! G1 -/
set_option linter.all false
set_option maxRecDepth 100000
set_option maxHeartbeats 4000000
noncomputable section
/-! a loop over a generator that goes no further than its first item -/
namespace TS
open PySem PySem.Spec PyProof.Rows L2 PySem.Froz Evl GenW

def NoEnd : GenEnd := fun _ _ _ _ => False
/-- the item that is handed out first, and all that stands then -/
def FirstY (P : Program) (w : World) (outer : List Env) (H : Hp) (s : Shared) (D : V → Hp → Prop) : Protocol := fun _ _ v t _ =>
  ∃ x H', RelV x v ∧ D x H' ∧ t.os = s.os ∧ AllBare t.gens ∧ Un (frs outer) [] H H' s.heap t.heap ∧ HOk P w H' t.heap ∧ t.heap.NoLimit
abbrev TF := L2.St → Hp → (V → Hp → Prop) → Prop
structure First (X : Cx) (body : List Stmt) (t : TF) : Prop where
  run : ∀ (A : Around) (Y : Protocol) (s₀ : Shared) (c : Code) (fs : List Frame) (K : Flow → Sem PySem.Fin) (J : Value → Sem PySem.Fin) (gd : Bool → Bool) (lv : List Value → List Value) (s : Shared) (σ : L2.St) (H : Hp) (D : V → Hp → Prop),
    A.over c fs = X.A → splitAtGen fs = none → fs.any Frame.guarded = false → gd false = false → X.env.scope.isCoroutine = false → interactive X.env = false →
    (∀ e s', X.xe e s' → Seg (model X.prog X.w) A NoEnd Y 1 s₀ c (J e) fs s') →
    (∀ σ' H' x v s' kap, Inv X [] σ' H' s' → RelV x v → D x H' → Y 0 s₀ v s' kap) →
    Inv X [] σ H s → t σ H D → Seg (model X.prog X.w) A NoEnd Y 1 s₀ c ((execs body X.env).wrap K J gd lv) fs s
section
variable {X : Cx} {st : Stmt} {rest : List Stmt}
theorem first_yield {e : Expr} {te : TE} {yp pos : Pos} (he : PE X e te) : First X (.Expr (.Yield (some e) yp) pos :: rest) te := by
  refine ⟨fun A Y s₀ c fs K J gd lv s σ H D ho hsp hg hgd hco hi hJ hY I ht => ?_⟩
  refine seg_execs_cons (seg_Expr_Yield hsp hgd hg ?_ hco hi)
  rw [ho]
  exact wpAny_mono (he.run [] s σ H _ I ht) (fun v s' ⟨x, H1, I1, rv, q⟩ kap _ => hY σ H1 x v s' kap I1 rv q) fun x s' hx => hJ x s' hx
theorem first_cons {t : TS} {u : TF} (a : PS X st t) (b : First X rest u) : First X (st :: rest) (fun σ H D => t { nx := fun σ' H' => u σ' H' D, rt := fun _ _ => False } σ H) := by
  refine ⟨fun A Y s₀ c fs K J gd lv s σ H D ho hsp hg hgd hco hi hJ hY I ht => ?_⟩
  refine seg_execs_cons (seg_wrap ?_)
  rw [ho]
  refine wpAny_mono (a.run [] s σ H _ I ht) (fun f s' hs => ?_) fun x s' hx => hJ x s' hx
  cases f with
  | next =>
    obtain ⟨σ1, H1, I1, q1⟩ := hs
    exact b.run A Y s₀ c fs K J gd lv s' σ1 H1 D ho hsp hg hgd hco hi hJ hY I1 q1
  | brk => exact hs.elim fun _ z => z.elim fun _ z => z.2.elim
  | cont => exact hs.elim fun _ z => z.elim fun _ z => z.2.elim
  | ret u => exact hs.elim fun _ z => z.elim fun _ z => z.elim fun _ z => z.2.2.elim
end
/-- a generator that has not begun, told by its first item -/
def FMade (P : Program) (w : World) (k : Nat) (outer : List Env) (H : Hp) (s : Shared) (D : V → Hp → Prop) (u : Value) (t : Shared) : Prop :=
  ∃ (a : Addr) (g : Nat) (c : Code), u = .ref a ∧ t.heap.IsGen a g ∧ t.gens[g]? = some (.fresh c) ∧ t.os = s.os ∧ AllBare t.gens ∧ t.heap.NoLimit ∧ (∀ b o, s.heap.get? b = some o → t.heap.get? b = some o) ∧
    ∀ (A : Around) (r : Shared), Room k A → A.frames = some outer → (∀ b o, t.heap.get? b = some o → r.heap.get? b = some o) → r.os = s.os → AllBare r.gens →
      Seg (model P w) A NoEnd (FirstY P w outer H s D) 1 r c ((model P w).den c) [] r
abbrev SpF := List V → Hp → (V → Hp → Prop) → Prop
structure GF1 (P : Program) (w : World) (K : PySem.W.Frag) (mg : PySem.Str → Option Value) (base : Heap) (k : Nat) (f : Addr) (fd : FuncData) (ps : List PySem.Str) (sp : SpF) : Prop where
  len : ∀ vs H D, sp vs H D → vs.length = ps.length
  run : ∀ (A : Around) (outer : List Env) (s : Shared) (H : Hp) (args : Args) (us : List Value) (vs : List V) (D : V → Hp → Prop), Room k A → Env0 P w K mg base A outer s H → BindsTo s fd args (ps.zip us) → Vals vs us → sp vs H D →
    codeAny (model P w) A (.call (.ref f) args) (fun r t => match r with | .ok (.ret u) => FMade P w k outer H s D u t | _ => False) s
abbrev EN : XK := fun _ _ _ => False
theorem cx_en {P : Program} {w : World} {outer : List Env} {H : Hp} {s t : Shared} {e : Value} (h : CX P w outer H s EN e t) : False := by
  obtain ⟨a, B, H', cls, d, z1, fl, z2, ub, z3, z4, z5, z6⟩ := h
  exact z6
theorem gf1_of {P : Program} {w : World} {K : PySem.W.Frag} {mg : PySem.Str → Option Value} {base : Heap} {k : Nat} {f : Addr} {name qual : PySem.Str} {params : Arguments} {body : List Stmt} {scope : Scope} {dV kV doc pm cdv ct oc : Value} {an od : Option Addr}
    {osl : Array (Option Value)} {N ps : List PySem.Str} {sp : SpF} (lk : K.lookup f = some ⟨oc, od, .func (PySem.W.fnOf name qual params body scope dV kV doc pm an cdv ct), osl⟩) (hcd : PySem.W.codeIn K cdv qual = true) (S : GScope N ps scope) (len : ∀ vs H D, sp vs H D → vs.length = ps.length)
    (hi : ∀ l, interactive (envOfC qual scope l f cdv) = false)
    (hbody : ∀ (A : Around) (outer : List Env) (s : Shared) (H : Hp) (vs : List V) (D : V → Hp → Prop), Room k (A.deeper (envOfC qual scope s.heap.objs.size f cdv)) → sp vs H D →
      ∃ t, First (gcxOf P w K mg base N qual scope f cdv A outer s H EN []) body t ∧ t (start N vs) H D) :
    GF1 P w K mg base (k + 1) f (PySem.W.fnOf name qual params body scope dV kV doc pm an cdv ct) ps sp := by
  refine ⟨len, fun A outer s H args us vs D hr e0 hb r hsp => ?_⟩
  have hl := len _ _ _ hsp
  have KX : K.In s.heap := e0.mod.kin.keeps fun b o e => (e0.bs b o e).1
  have lim0 : s.heap.NoLimit := e0.mod.nolimit.keeps fun b o e => (e0.bs b o e).1
  refine codeAny_call_generator hr.depth (KX _ _ lk) rfl S.co S.gen rfl (PySem.W.codeRec_of KX hcd) (hb _ _ _ _ ?_)
  refine wpAny_newFunctionEnv_cells S.kind (fun ⟨n, v⟩ hy => (S.par n (List.of_mem_zip hy).1).elim .inl fun q => .inr ⟨q, PySem.W.cellsFrom_some _ _ _ (.inl q)⟩) fun env he t x => ?_
  subst he
  have lim1 : t.heap.NoLimit := lim0.keeps x.toInCall.keep
  refine ⟨lim1, ?_⟩
  obtain ⟨h1, tk, es1, hk1⟩ := x.done
  have os1 : t.os = s.os := by rw [es1]
  have gen1 : t.gens = s.gens := by rw [es1]
  have main : ∀ (go : Obj) (nm qn : Value) (tk2 : Nat), go.cls = .type "generator" → go.data = .fields #[.int t.gens.size 0, nm, qn] → go.slots = #[] → (∀ h : Heap, (h.push go).get? h.objs.size = some go) →
      FMade P w (k + 1) outer H s D (.ref t.heap.objs.size) { t with gens := t.gens.push (.fresh (.func body (envOfC qual scope s.heap.objs.size f cdv))), toks := tk2, heap := t.heap.push go } := by
    intro go nm qn tk2 hgc hgd0 hgs hgp
    refine ⟨t.heap.objs.size, t.gens.size, _, rfl, ⟨go, nm, qn, hgp _, hgc, hgd0, hgs⟩, Array.getElem?_push_size .., os1, AllBare.push (by rw [gen1]; exact e0.bare) rfl, lim1.keeps fun b o e => Heap.get?_push_of_some _ e,
      fun b o e => Heap.get?_push_of_some _ (x.toInCall.keep b o e), ?_⟩
    intro Aw s2 hrw hfr hk2 hos hba
    have e0w : Env0 P w K mg base Aw outer s H := ⟨hfr, e0.mod, e0.bs, e0.bsz, e0.funs, e0.frf, e0.hok, e0.bare⟩
    obtain ⟨tt, ht, hq⟩ := hbody Aw outer s H vs D (hrw.deeper _) hsp
    have I1 : Inv (gcxOf P w K mg base N qual scope f cdv Aw outer s H EN []) [] (start N vs) H t := inv_startG S hrw.hd e0w hl r x
    have kp2 : ∀ b o, t.heap.get? b = some o → s2.heap.get? b = some o := fun b o e => hk2 b o (Heap.get?_push_of_some _ e)
    have I2 : Inv (gcxOf P w K mg base N qual scope f cdv Aw outer s H EN []) [] (start N vs) H s2 := I1.call' (ch := []) (hos.trans os1.symm) (Un.kept kp2) (I1.hok.kept kp2) hba fun b z => by simp at z
    refine seg_func (ht.run Aw _ s2 _ [] _ _ _ _ s2 (start N vs) H D over_func rfl rfl rfl S.co (hi _) (fun e t1 hx => ?_) (fun σ1 H1 y v t1 kap J rv hD => ?_) I2 hq)
    · refine seg_wrap ?_
      rw [over_func]
      exact wpAny_mono (show wpAny (model P w) (Aw.deeper (envOfC qual scope s.heap.objs.size f cdv)) (leaving (envOfC qual scope s.heap.objs.size f cdv) e) (fun _ t2 => CX P w outer H s EN e t2 ∧ _) (fun _ _ => False) t1 from hx) (fun _ t2 q => (cx_en q.1).elim) fun _ t2 q => q.elim
    · exact ⟨y, H1, rv, hD, J.os, J.bare, J.base, J.hok, J.nolimit⟩
  exact main _ _ _ _ rfl rfl rfl fun h => Heap.get?_push_size _ rfl
end TS
end
/-! G2 -/
set_option linter.all false
set_option maxRecDepth 100000
set_option maxHeartbeats 4000000
noncomputable section
namespace TS
open PySem PySem.Spec PyProof.Rows L2 PySem.Froz Evl GenW

structure PFirst (X : Cx) (k : Nat) (e : Expr) (t : TF) : Prop where
  run : ∀ (pins : List (Addr × Obj)) (s : Shared) (σ : L2.St) (H : Hp) (D : V → Hp → Prop), Inv X pins σ H s → t σ H D → wpAny (model X.prog X.w) X.A (eval e X.env)
    (fun u s' => ∃ H1 sc, Inv X pins σ H1 sc ∧ FMade X.prog X.w k X.stack H1 sc D u s') X.xe s
def tCallF (sp : SpF) (dvs : List V) (t : TA) : TF := fun σ H D => t σ H fun vs H1 => sp (vs ++ dvs) H1 D
section
variable {X : Cx} {k : Nat} {f : Addr} {fd : FuncData} {ps : List PySem.Str} {sp : SpF} {dvs : List V} {ds : List Value} {x v : PySem.Str} {p pos px : Pos}
theorem pfirst_call {e : Expr} {es : List Expr} {t : TA} (F : GF1 X.prog X.w X.K X.mg X.base k f fd ps sp) (hr : Room k X.A) (hg : Gl X x) (hm : X.mg x = some (.ref f)) (hk : PySem.W.keepIn X.K (.ref f) = true) (hb : Binds X.K fd ps ds) (hd : Vals dvs ds)
    (ha : PA X (e :: es) t) (hdb : (x == ("__debug__" : PySem.Str)) = false := by decide) (he : starEach (e :: es) X.env = (false, eval e X.env) :: starEach es X.env := by rfl) (hpl : (backTo pos (starEach es X.env)).any (·.1) = false := by rfl) :
    PFirst X k (.Call (.Name x p) (e :: es) [] pos) (tCallF sp dvs t) := by
  refine ⟨fun pins s σ H D I h => wpAny_Call_Name_kw (ld_glob I hg hm ?_ hdb)⟩
  refine PySem.W.callWith_K (h₀ := X.base) I.ok.mod.kin hk (thn (ha.run pos pins s σ H _ I h) fun us s1 ⟨vs, H1, I1, r, q⟩ => ⟨I1.kIn, ?_⟩) he hpl
  have r2 : Vals (vs ++ dvs) (us ++ ds) := r.append hd
  have hl2 : (us ++ ds).length = ps.length := r2.length.symm.trans (F.len _ _ _ q)
  refine wpAny_call (codeAny_mono (F.run X.A X.stack s1 H1 ⟨us, []⟩ (us ++ ds) (vs ++ dvs) D hr I1.env0 (hb s1 us I1.kIn hl2) r2 q) fun r s' hq => ?_)
  cases r with
  | error e => exact hq.elim
  | ok fl =>
    cases fl with
    | ret u => exact ⟨H1, s1, I1, hq⟩
    | next => exact hq.elim
    | brk => exact hq.elim
    | cont => exact hq.elim
def tFor1 (tf : TF) (g : TG) (tb : TS) : TS := fun D σ H => tf σ H fun x H1 => g x σ H1 fun σ2 H2 => tb { nx := fun _ _ => False, ct := fun _ _ => False, rt := D.rt, bk := D.nx } σ2 H2
/-- for v in g(..): the body never comes to its end -/
theorem ps_for1 {iter : Expr} {body : List Stmt} {tf : TF} {g : TG} {tb : TS} (hp : PassesOwn (model X.prog X.w) X.A X.env X.xe) (hi : PFirst X k iter tf) (hr : Room (k + 1) X.A) (hg : PG X (.Name v px) g) (hb : PSs X body tb)
    (hs : ∀ x, foldedSetIterable iter X.env x = pure x := by intro _; rfl) : PS X (.For (.Name v px) iter body [] pos) (tFor1 tf g tb) := by
  refine ⟨fun pins s σ H D I h => ?_⟩
  refine wpAny_For (thn (hi.run pins s σ H _ I h) fun u s1 ⟨H1, sc, I1, a, n, c, eu, isg, hgs, hos, hba, hl, hk, wake⟩ => ?_) hs
  subst eu
  refine wpAny_pyIter_gen isg (codeAny_forLoop (fun m t => m = 0 ∧ t = s1) ?_ 0 ⟨rfl, rfl⟩)
  rintro m t ⟨rfl, rfl⟩
  have go : (GenState.fresh c).Goes (model X.prog X.w) X.A.in1 (fun n s₀ r s₁ => ((r = .ok (.ret .none) ∨ r = .ok .next) ∧ (fun _ _ _ => False : Nat → Shared → Shared → Prop) n s₀ s₁) ∨ ∃ e, r = .error e ∧ (fun _ _ => False : Value → Shared → Prop) e s₁) (FirstY X.prog X.w X.stack H1 sc fun x H2 => g x σ H2 fun σ2 H3 => tb { nx := fun _ _ => False, ct := fun _ _ => False, rt := D.rt, bk := D.nx } σ2 H3) 1 (.send .none) (t.setGen n .running) :=
    ⟨rfl, seg_imp (R := NoEnd) (Y := FirstY X.prog X.w X.stack H1 sc fun x H2 => g x σ H2 fun σ2 H3 => tb { nx := fun _ _ => False, ct := fun _ _ => False, rt := D.rt, bk := D.nx } σ2 H3) (fun _ _ _ _ z => False.elim z) (fun _ _ _ _ _ _ _ z => z) 1 (wake X.A.in1 (t.setGen n .running) hr.in1 I1.ok.frames (fun _ _ z => z) hos (allBare_setGen hba rfl))⟩
  refine wpAny_passesOwn hp (next_genG hr.hd hl hr.depth isg hgs go (fun u t1 gs' hbr hY => ?_) (fun _ z => False.elim z) fun _ _ z => False.elim z)
  obtain ⟨y, H2, ry, q, o1, b1, un, ok1, _⟩ := hY
  have I2 : Inv X pins σ H2 (t1.setGen n gs') := I1.call' (ch := []) o1 un ok1 (allBare_setGen b1 hbr) fun b z => by simp at z
  refine wpAny_passesOwn hp (thn (hg.run _ _ σ H2 y u _ I2 ry q) fun _ t2 ⟨σ3, H3, I3, q3⟩ => ?_)
  refine wpAny_passesOwn hp (thn (hb.run _ t2 σ3 H3 _ I3 q3) fun fl t3 q4 => ?_)
  cases fl with
  | next => exact q4.elim fun _ z => z.elim fun _ z => z.2.elim
  | cont => exact q4.elim fun _ z => z.elim fun _ z => z.2.elim
  | brk => exact q4
  | ret r => exact q4
end
end TS
end
/-! G3 -/
set_option linter.all false
set_option maxRecDepth 100000
set_option maxHeartbeats 4000000
noncomputable section
namespace TS
open PySem PySem.Spec PyProof.Rows L2 PySem.Froz Evl

/-! ### C.m(..), m a static method -/
structure SMet (K : PySem.W.Frag) (C : Addr) (mc : Value) (m : PySem.Str) (p g : Addr) : Prop where
  at_ : PySem.W.findCls K (.ref C) mc m = some (.get (.builtin "staticmethod.__get__") (.ref p) .none (.ref C))
  rc : ∃ rest, PySem.W.recIn K p "staticmethod" = some (.ref g :: rest)
  kp : PySem.W.keepIn K (.ref g) = true
def tSMeth (C : Addr) (sp : Sp) (dvs : List V) (E : XK) (ta : TE) (t : TA) : TE := fun σ H Q => ta σ H fun x H1 => x = .ref C ∧ t σ H1 fun vs H2 => sp (vs ++ dvs) H2 Q E
section
variable {X : Cx} {CX : CXT} {k : Nat} {C p g : Addr} {mc : Value} {fd : FuncData} {ps : List PySem.Str} {sp : Sp} {dvs : List V} {ds : List Value} {E : XK} {o e : Expr} {es : List Expr} {m : PySem.Str} {pos apos : Pos} {ta : TE} {t : TA} {pl : Sem Bool}
theorem pe_smeth (he : PE X o ta) (r : ClX.CRead X.K C mc) (c : SMet X.K C mc m p g) (F : FnOk X.prog X.w X.K X.mg X.base CX k g fd ps sp) (hr : Room k X.A) (hb : Binds X.K fd ps ds) (hd : Vals dvs ds) (hx : Passes CX X E) (ha : PA X (e :: es) t)
    (hst : starEach (e :: es) X.env = (false, eval e X.env) :: starEach es X.env := by rfl) (hpl : (backTo pos (starEach es X.env)).any (·.1) = false := by rfl)
    (ht : eval (.Call (.Attribute o m apos) (e :: es) [] pos) X.env = (eval o X.env >>= fun ov => standAt apos.atName >>= fun _ => holding [ov] (getMethod ov m pl) >>= fun fv =>
      callWith pos fv.1 fv.2 (backTo pos (starEach (e :: es) X.env)) (backToKw pos (keywordEach [] X.env))) := by rfl) :
    PE X (.Call (.Attribute o m apos) (e :: es) [] pos) (tSMeth C sp dvs E ta t) := by
  refine ⟨fun pins s σ H Q I h => PySem.W.methodCall_KW (pl := pl) (thn (he.run pins s σ H _ I h) fun u s1 ⟨x, H1, I1, rx, ex, q⟩ => ?_) ht⟩
  subst ex
  obtain rfl : u = Value.ref C := rx
  obtain ⟨rest, hp⟩ := c.rc
  refine PySem.W.method_cls I1.kIn r.ga (PySem.W.cls_bind I1.kIn r.rd c.at_ (wpAny_call (PySem.W.sm_get (s := { s1 with toks := s1.toks + 1 }) I1.kIn hp (PySem.W.handed_on rfl ?_))))
  exact PySem.W.callWith_K (first := []) (h₀ := X.base) I1.ok.mod.kin c.kp (thn (ha.run pos pins _ σ H1 _ (I1.tok (s1.toks + 1)) q) fun us s2 ⟨vs, H2, I2, rv, q2⟩ => ⟨I2.kIn, run_fn F hr hb hd hx I2 rv q2⟩) hst hpl
end

/-! ### C(*y, k = z), __init__(self, *v, k) -/
section
variable {M : Model} {A : Around} {E : Value → Shared → Prop} {s : Shared}
theorem lone_kw {f : Value} {x : Sem Value} {pos : Pos} {kws : List (Option PySem.Str × Sem Value)} {Q : Args → Shared → Prop} (hall : kws.all (·.1.isSome) = true)
    (h : wpAny M A x (fun v s₁ => wpAny M A (evalAll (kws.map (·.2))) (fun ws s₂ => PySem.W.StarOf M A E v (fun vs s₃ => Q ⟨vs, (kws.filterMap (·.1)).zip ws⟩ s₃) s₂) E s₁) E s) :
    wpAny M A (evalArgs f true [(true, (x >>= fun v => standAt pos >>= fun _ => pure v))] kws) Q E s := by
  unfold evalArgs
  first
    | refine wpAny_bind (wpAny_bind (wpAny_mono h (fun v s₁ h₁ => wpAny_bind (wpAny_standAt (wpAny_pure ?_))) fun _ _ x => x))
    | refine wpAny_bind (wpAny_bind (wpAny_bind (wpAny_mono h (fun v s₁ h₁ => wpAny_bind (wpAny_standAt (wpAny_pure (wpAny_pure ?_)))) fun _ _ x => x)))
  refine wpAny_holding ?_
  simp only [hall, if_true]
  refine wpAny_bind (wpAny_mono h₁ (fun ws s₂ h₂ => ?_) fun _ _ x => x)
  unfold PySem.W.StarOf at h₂
  refine wpAny_bind (wpAny_bind (wpAny_mono h₂ (fun b s₃ h₃ => ?_) fun _ _ x => x))
  obtain ⟨rfl, h₃⟩ := h₃
  have z := wpAny_holding (vs := ((kws.filterMap (·.1)).zip ws).map (·.2)) (wpAny_mono h₃ (fun vs s₄ h₄ => (wpAny_pure h₄ : wpAny M A (pure (⟨vs, (kws.filterMap (·.1)).zip ws⟩ : Args)) Q E s₄)) fun _ _ x => x)
  simp only [Bool.false_eq_true, if_false]
  exact z
theorem callWith_starKW {f : Value} {first : List Value} {pos : Pos} {Q : Value → Shared → Prop} {P : Heap → Prop} {args : List (Bool × Sem Value)} {kws : List (Option PySem.Str × Sem Value)} (hst : args.any (·.1) = true)
    (hk : ∀ h, P h → ∃ k, (k = Keeper.frame ∨ k = Keeper.machine ∨ k = Keeper.boundFrame) ∧ PySem.W.Looks M h (keeperOf f) k)
    (h : wpAny M A (evalArgs f true args kws) (fun a s₁ => P s₁.heap ∧ wpAny M A (call f (first ++ a.pos) a.kw) Q E s₁) E s) : wpAny M A (callWith pos f first args kws) Q E s := by
  unfold callWith
  refine wpAny_bind (wpAny_holding (wpAny_mono h (fun z t ht => wpAny_bind (wpAny_standAt ?_)) fun _ _ y => y))
  obtain ⟨kp, hkp, L⟩ := hk _ ht.1
  simp only [hst, Bool.true_or]
  refine wpAny_bind (L.here ?_)
  have fin : ∀ {t0 : Sem Value}, wpAny M A t0 Q E t → wpAny M A (t0 >>= fun r => holding [r] point >>= fun _ => pure r) Q E t :=
    fun h0 => wpAny_bind (wpAny_mono h0 (fun r s₂ hr => wpAny_bind (wpAny_holding (wpAny_point (wpAny_pure hr)))) fun _ _ y => y)
  have mk : ∀ v : Value, wpAny M A (callMarked v f (first ++ z.pos) z.kw) Q E t := fun v => by
    unfold callMarked
    exact Calls.wpAny_keep ht.2
  rcases hkp with rfl | rfl | rfl <;> dsimp only <;> first | exact fin (mk _) | exact fin (wpAny_operating ht.2)
end
/-- what a def that takes self, *below and one keyword promises: self, what is below, the keyword's value -/
abbrev SpK := V → List V → V → Hp → VK → XK → Prop
def FnSK (P : Program) (w : World) (K : PySem.W.Frag) (mg : PySem.Str → Option Value) (base : Heap) (CX : CXT) (k : Nat) (f : Addr) (nm : PySem.Str) (sp : SpK) : Prop :=
  ∀ (A : Around) (outer : List Env) (s : Shared) (H : Hp) (a : Value) (us : List Value) (z : Value) (x : V) (vs : List V) (y : V) (Q : VK) (E : XK), Room k A → Env0 P w K mg base A outer s H → RelV x a → Vals vs us → RelV y z → sp x vs y H Q E →
    codeAny (model P w) A (.call (.ref f) ⟨a :: us, [(nm, z)]⟩) (CR CX outer P w H s Q E) s
section
variable {CX : CXT} {P : Program} {w : World} {K : PySem.W.Frag} {mg : PySem.Str → Option Value} {base : Heap} {k : Nat} {f : Addr} {name qual : PySem.Str} {params : Arguments} {body : List Stmt} {scope : Scope} {dV kV doc pm cdv ct oc : Value} {an od : Option Addr}
  {osl : Array (Option Value)} {N : List PySem.Str} {p0 pk pv : PySem.Str} {sp : Sp}
theorem fn_starK (lk : K.lookup f = some ⟨oc, od, .func (PySem.W.fnOf name qual params body scope dV kV doc pm an cdv ct), osl⟩) (hcd : PySem.W.codeIn K cdv qual = true) (S : FnScope N [p0, pk, pv] scope) (hCX : StX.CXUp CX)
    (hb : ∀ (a : Value) (rest : List Value) (z : Value), bindArgs (PySem.W.fnOf name qual params body scope dV kV doc pm an cdv ct) ⟨a :: rest, [(pk, z)]⟩ = (newTuple rest >>= fun t => pure [(p0, a), (pk, z), (pv, t)]))
    (hbody : ∀ (A : Around) (outer : List Env) (s : Shared) (H : Hp) (vs : List V) (Q : VK) (E : XK), Room k (A.deeper (envOfC qual scope s.heap.objs.size f cdv)) → sp vs H Q E →
      ∃ t, PSs (cxOf CX P w K mg base N qual scope f cdv A outer s H E) body t ∧ t { nx := fun _ H' => Q .non H', rt := Q } (start N vs) H) :
    FnSK P w K mg base CX (k + 1) f pk (fun x vs y H Q E => vs.length ≤ sizeLine ∧ ∀ p, H p = Option.none → sp [x, y, V.ref p] (upd H p (.tup vs)) Q E) := by
  intro A outer s H a us z x vs y Q E hr e0 rx r ry ⟨hz, hq⟩
  have hn : H s.heap.objs.size = Option.none := e0.hok.fresh (Nat.le_refl _)
  have hl2 : us.length ≤ sizeLine := by rw [← r.length]; exact hz
  refine StX.run_bnd lk hcd S hr e0 (G := fun xs H2 => ∃ p, H p = Option.none ∧ xs = [x, y, V.ref p] ∧ H2 = upd H p (.tup vs)) (fun A' Ex Q' h => ?_) fun s2 H2 xs ⟨p, hp, ex, eH⟩ hr' => ?_
  · rw [hb]
    refine wpAny_bind (wpAny_newTuple (wpAny_pure ?_) hl2)
    have new : ObjOk P w (upd H s.heap.objs.size (.tup vs)) (s.heap.push ({ cls := .type "tuple", data := .seq us.toArray } : Obj)) s.heap.objs.size (.tup vs) := ⟨hz, us, r, ⟨_, Heap.get?_push_size _ rfl, rfl, _, rfl⟩⟩
    have un := StX.un_laid (fs := frs outer) (s := s) (o := ({ cls := .type "tuple", data := .seq us.toArray } : Obj)) (u := .tup vs) hn
    exact h _ _ [x, y, V.ref s.heap.objs.size] [a, z, Value.ref s.heap.objs.size] (StX.env0_laid e0 new) un rfl (fun e s' => hCX outer s H _ _ E e s' un (fun b o q => Heap.get?_push_of_some _ q) rfl) (.cons rx (.cons ry (.cons rfl .nil))) rfl ⟨_, hn, rfl, rfl⟩
  · subst ex eH
    exact hbody A outer s2 _ _ Q E hr' (hq p hp)
end
def tMakeSK (K : PySem.W.Frag) (C : Addr) (sp : SpK) (E : XK) (te : TE) (tk : TA) : TE := fun σ H Q => te σ H fun y H1 => tk σ H1 fun zs H2 => ∃ a xs z, y = V.ref a ∧ (SqT K H2 a xs ∨ SqL K H2 a xs) ∧ zs = [z] ∧
  ∀ x dx, H2 x = none → H2 dx = none → dx ≠ x → sp (.ref x) xs z (upd (upd H2 dx (.own x)) x (.ins C dx [])) (fun v H3 => v = .non ∧ Q (.ref x) H3) E
section
variable {X : Cx} {CX : CXT} {k : Nat} {f C : Addr} {sp : SpK} {E : XK} {x nm : PySem.Str} {p pos sp_ : Pos} {e : Expr} {kws : List Keyword} {te : TE} {tk : TA}
theorem pe_makeSK (M : Mk X.K C f) (F : FnSK X.prog X.w X.K X.mg X.base CX k f nm sp) (hr : Room (k + 1) X.A) (hg : Gl X x) (hm : X.mg x = some (.ref C)) (hx : Passes CX X E) (he : PE X e te) (hkw : PK X kws tk)
    (hall : (backToKw pos (keywordEach kws X.env)).all (·.1.isSome) = true := by rfl) (hks : (backToKw pos (keywordEach kws X.env)).filterMap (·.1) = [nm] := by rfl) (hdb : (x == ("__debug__" : PySem.Str)) = false := by decide)
    (hst : starEach [.Starred e sp_] X.env = [(true, eval e X.env)] := by rfl) :
    PE X (.Call (.Name x p) [.Starred e sp_] kws pos) (tMakeSK X.K C sp E te tk) := by
  refine ⟨fun pins s σ H Q I h => ?_⟩
  refine wpAny_Call_Name_kw (ld_glob I hg hm ?_ hdb)
  rw [hst]
  refine callWith_starKW (P := fun h => X.K.In h) rfl (fun h hh => PySem.W.keeps_K M.kp h hh) ?_
  refine lone_kw hall (thn (he.run pins s σ H _ I h) fun v s1 ⟨y, H1, I1, ry, q⟩ => thn (hkw.run pos pins s1 σ H1 _ I1 q) fun ws s2 ⟨zs, H2, I2, rz, a, xs, z, ey, hxs, ez, q2⟩ => ?_)
  subst ey ez
  obtain rfl : v = Value.ref a := ry
  rw [hks]
  obtain ⟨wz, rfl, rw0⟩ : ∃ wz, ws = [wz] ∧ RelV z wz := by
    cases rz with
    | cons r1 r2 => cases r2 with | nil => exact ⟨_, rfl, r1⟩
  refine StX.star_any I2 hxs fun us s3 I3 rv => ⟨I3.kIn, ?_⟩
  have hq := q2 (s3.heap.objs.size + 1) s3.heap.objs.size (I3.hok.fresh (Nat.le_succ _)) (I3.hok.fresh (Nat.le_refl _)) (Nat.ne_of_lt (Nat.lt_succ_self _))
  have I4 := Inv.made (C := C) I3
  refine wpAny_call (make_map (f := f) I3.kIn M.makes M.init (beq_iff_eq.mp M.fn) (codeAny_mono (F _ X.stack _ _ (Value.ref (s3.heap.objs.size + 1)) us wz _ _ _ _ E (hr.make C us [(nm, wz)]) (I4.env0.make C us [(nm, wz)]) (show RelV (V.ref (s3.heap.objs.size + 1)) _ from rfl) rv rw0 hq) fun r s' hq' => ?_))
  cases r with
  | error e => exact hx pins σ _ _ e s' I4 hq'
  | ok fl =>
    cases fl with
    | ret u =>
      obtain ⟨v, H', I5, rv', ev, q3⟩ := I4.after hq'
      subst ev
      exact ⟨rv', ⟨V.ref (s3.heap.objs.size + 1), H', I5, rfl, q3⟩⟩
    | next => exact hq'.elim
    | brk => exact hq'.elim
    | cont => exact hq'.elim
end
end TS
end
/-! G4 -/
set_option linter.all false
set_option maxRecDepth 100000
set_option maxHeartbeats 4000000
noncomputable section
/-! a loop over an instance whose __iter__ hands out a tuple's iterator -/
namespace TS
open PySem PySem.Spec PyProof.Rows L2 PySem.Froz Evl

/-- at it an iterator over the tuple at l -/
def ItT (l it : Addr) (i : Nat) : HO := .ext fun h => h.IsTupleIter it l i
theorem itT_ok {P : Program} {w : World} {H : Hp} {h : Heap} {l it : Addr} {i : Nat} (e : h.IsTupleIter it l i) : ObjOk P w H h it (ItT l it i) := ⟨e, let ⟨o, ho, _⟩ := e; ⟨o, ho⟩, fun _ _ q k => q.at fun o => k o⟩
section
variable {prog : Program} {w : World} {A : Around} {E : Value → Shared → Prop} {s : Shared} {l : Addr} {items : Array Value}
theorem call_iterTup {Q : Value → Shared → Prop} (hl : s.heap.IsTuple l items) (h : ∀ h', h' = s.heap.push { cls := .type "tuple_iterator", data := .fields #[.ref l, .int 0 0] } → Q (.ref s.heap.objs.size) { s with heap := h' }) : wpAny (model prog w) A (call (.builtin "iter") [.ref l]) Q E s := by
  refine Calls.call_function_entry (by decide +kernel) (by decide +kernel) PySem.W.kdk_entry_iter (PySem.W.kdk_args_iter _) ?_
  unfold Builtin.«iter»
  refine wpAny_bind (m := someArgs "iter" 1 2 _) (wpAny_of_eq (a := [Value.ref l]) (by first | rfl | kernel_rfl!) ?_)
  show wpAny _ _ (pyIter (.ref l) >>= _) _ _ _
  exact wpAny_bind (wpAny_pyIter_tuple hl (wpAny_pure ⟨_, rfl, h _ rfl⟩))
end
/-- iter(t), t a tuple; n: the frame's beginning -/
def rIterT (K : PySem.W.Frag) (n : Nat) : List V → Hp → VK → Prop := fun xs H Q => ∃ (l : Addr) (zs : List V), xs = [.ref l] ∧ SqT K H l zs ∧ ∀ it, H it = Option.none → n ≤ it → Q (.ref it) (upd H it (ItT l it 0))
theorem call_iterT {X : Cx} : CallR X (.builtin "iter") (rIterT X.K X.s_0.heap.objs.size) := by
  intro pins s σ H xs us Q I r h
  obtain ⟨l, zs, rfl, hq, q⟩ := h
  obtain rfl := Vals.ref1 r
  obtain ⟨its, rv, pl, hz⟩ := I.tuple hq
  refine call_iterTup (show s.heap.IsTuple l its.toArray from pl) fun h' eh => ?_
  subst eh
  exact ⟨.ref s.heap.objs.size, _, I.laid (t' := s.toks) (fun b u e => Heap.get?_push_of_some _ e) (Nat.le_refl _) (itT_ok ⟨_, Heap.get?_push_size _ rfl, rfl, rfl⟩), rfl, q _ (I.hok.fresh (Nat.le_refl _)) I.sz⟩

/-- a def's run at one state -/
theorem run_at {CX : CXT} {P : Program} {w : World} {K : PySem.W.Frag} {mg : PySem.Str → Option Value} {base : Heap} {k : Nat} {f : Addr} {name qual : PySem.Str} {params : Arguments} {body : List Stmt} {scope : Scope} {dV kV doc pm cdv ct oc : Value} {an od : Option Addr}
    {osl : Array (Option Value)} {N ps : List PySem.Str} {A : Around} {outer : List Env} {s : Shared} {H : Hp} {args : Args} {us : List Value} {vs : List V} {Q : VK} {E : XK} (lk : K.lookup f = some ⟨oc, od, .func (PySem.W.fnOf name qual params body scope dV kV doc pm an cdv ct), osl⟩) (hcd : PySem.W.codeIn K cdv qual = true) (S : FnScope N ps scope)
    (hl : vs.length = ps.length) (hr : Room (k + 1) A) (e0 : Env0 P w K mg base A outer s H) (hb : BindsTo s (PySem.W.fnOf name qual params body scope dV kV doc pm an cdv ct) args (ps.zip us)) (r : Vals vs us)
    (hbody : Room k (A.deeper (envOfC qual scope s.heap.objs.size f cdv)) → ∃ t, PSs (cxOf CX P w K mg base N qual scope f cdv A outer s H E) body t ∧ t { nx := fun _ H' => Q .non H', rt := Q } (start N vs) H) :
    codeAny (model P w) A (.call (.ref f) args) (CR CX outer P w H s Q E) s := by
  have KX : K.In s.heap := e0.mod.kin.keeps fun b o e => (e0.bs b o e).1
  refine codeAny_call_function hr.depth (KX _ _ lk) rfl S.co S.gen rfl (PySem.W.codeRec_of KX hcd) (hb _ _ _ _ (wpAny_newFunctionEnv_cells S.kind (fun ⟨n, v⟩ hy => (S.par n (List.of_mem_zip hy).1).elim .inl fun q => .inr ⟨q, PySem.W.cellsFrom_some _ _ _ (.inl q)⟩) fun env he t x => ?_))
  subst he
  have lim0 : s.heap.NoLimit := e0.mod.nolimit.keeps fun b o e => (e0.bs b o e).1
  refine ⟨lim0.keeps x.toInCall.keep, codeAny_func ?_⟩
  obtain ⟨tt, ht, hq⟩ := hbody (hr.deeper _)
  have I : Inv (cxOf CX P w K mg base N qual scope f cdv A outer s H E) [] (start N vs) H t := inv_start S hr.hd e0 hl r x
  refine wpAny_mono (ht.run [] t (start N vs) H _ I hq) (fun fl t1 hs => ?_) fun e t1 hs => hs
  cases fl with
  | ret u => exact hs.elim fun v z => z.elim fun σ1 z => z.elim fun H1 ⟨J, rv, q⟩ => ⟨v, H1, J.os, J.bare, J.base, J.hok, rv, q⟩
  | next => exact hs.elim fun σ1 z => z.elim fun H1 ⟨J, q⟩ => ⟨V.non, H1, J.os, J.bare, J.base, J.hok, rfl, q⟩
  | brk => exact hs.elim fun _ z => z.elim fun _ z => z.2.elim
  | cont => exact hs.elim fun _ z => z.elim fun _ z => z.2.elim

/-- __iter__(self): return iter(self.fld) -/
def FnIt (P : Program) (w : World) (K : PySem.W.Frag) (mg : PySem.Str → Option Value) (base : Heap) (k : Nat) (f C : Addr) (fld : PySem.Str) : Prop :=
  ∀ (A : Around) (outer : List Env) (s : Shared) (H : Hp) (a dx : Addr) (fs : List (PySem.Str × V)) (l : Addr) (zs : List V), Room k A → Env0 P w K mg base A outer s H → H a = some (.ins C dx fs) → fs.lookup fld = some (.ref l) → SqT K H l zs →
    codeAny (model P w) A (.call (.ref f) ⟨[.ref a], []⟩) (CR (CX P w) outer P w H s (fun v H' => ∃ it, v = .ref it ∧ s.heap.objs.size ≤ it ∧ H it = none ∧ H' = upd H it (ItT l it 0)) EN) s
theorem fnIt_of {P : Program} {w : World} {K : PySem.W.Frag} {mg : PySem.Str → Option Value} {base : Heap} {f C : Addr} {name qual fld : PySem.Str} {params : Arguments} {scope : Scope} {dV kV doc pm cdv ct oc : Value} {an od : Option Addr}
    {osl : Array (Option Value)} {p1 p2 p3 p4 p5 : Pos} (lk : K.lookup f = some ⟨oc, od, .func (PySem.W.fnOf name qual params [.Return (some (.Call (.Name "iter" p1) [.Attribute (.Name "self" p2) fld p3] [] p4)) p5] scope dV kV doc pm an cdv ct), osl⟩) (hcd : PySem.W.codeIn K cdv qual = true) (S : FnScope ["self"] ["self"] scope)
    (hb : ∀ (s : Shared) (a : Value), K.In s.heap → BindsTo s (PySem.W.fnOf name qual params [.Return (some (.Call (.Name "iter" p1) [.Attribute (.Name "self" p2) fld p3] [] p4)) p5] scope dV kV doc pm an cdv ct) ⟨[a], []⟩ [("self", a)]) (c : Cls K C) (n : NoAttr K C fld) (hm : mg "iter" = none)
    (hg : ∀ (CX : CXT) A outer s H E, Gl (cxOf CX P w K mg base ["self"] qual scope f cdv A outer s H E) "iter") : FnIt P w K mg base 1 f C fld := by
  intro A outer s H a dx fs l zs hr e0 ha hl ht
  have KX : K.In s.heap := e0.mod.kin.keeps fun b o e => (e0.bs b o e).1
  refine run_at lk hcd S (ps := ["self"]) (us := [.ref a]) (vs := [.ref a]) rfl hr e0 (hb s _ KX) (.cons rfl .nil) fun hr' => ?_
  refine ⟨_, pss_one (ps_ret (pe_callB call_iterT (hg _ _ _ _ _ _) hm (by decide +kernel) (pa_cons (pe_fld (pe_var (i := 0) rfl ((S.par "self" (List.Mem.head _)).elim (fun z => .inl z) (fun z => .inr (.inl z)))) rfl) pa_nil))), ?_⟩
  exact ⟨.ref a, rfl, a, C, dx, fs, .ref l, rfl, ha, c, n, hl, l, zs, rfl, ht, fun it hi hle => ⟨it, rfl, hle, hi, rfl⟩⟩
structure ItOwn (K : PySem.W.Frag) (C f : Addr) : Prop where
  it : PySem.W.findIn K (.ref C) "__iter__" = some (some (.ref f))
  itF : PySem.W.isFn K (.ref f) = true
def iOwnT (K : PySem.W.Frag) (C : Addr) (fld : PySem.Str) (te : TE) : TI := fun σ H R => te σ H fun x H1 => ∃ a dx fs l zs, x = .ref a ∧ H1 a = some (.ins C dx fs) ∧ fs.lookup fld = some (.ref l) ∧ SqT K H1 l zs ∧ R (Itt K l) H1
theorem pi_ownT {X : Cx} {tg e : Expr} {te : TE} {k : Nat} {f C : Addr} {fld : PySem.Str} (he : PE X e te) (c : ItOwn X.K C f) (F : FnIt X.prog X.w X.K X.mg X.base k f C fld) (hr : Room k X.A) : PI X tg e (iOwnT X.K C fld te) := by
  refine ⟨fun pins s σ H R I h => thn (he.run pins s σ H _ I h) fun v s1 ⟨x, H1, I1, r1, a, dx, fs, l, zs, ex, ha, hl, ht, q⟩ => ?_⟩
  subst ex
  obtain rfl : v = Value.ref a := r1
  obtain ⟨mA, J, _⟩ := ins_get I1.hok ha
  obtain ⟨od, J, _⟩ := J.look
  obtain ⟨m, hF⟩ := I1.fr
  refine PySem.W.owit_iter hF I1.ok.mod.kin J c.it c.itF (wpAny_call (codeAny_mono (F X.A X.stack s1 H1 a dx fs l zs hr I1.env0 ha hl ht) fun r s2 hq => ?_))
  cases r with
  | error e => exact (cx_en hq).elim
  | ok fl =>
    cases fl with
    | next => exact hq.elim
    | brk => exact hq.elim
    | cont => exact hq.elim
    | ret u =>
      obtain ⟨v, H', os, ba, un, ok2, rv, it, ev, hle, hn, eH⟩ := hq
      subst ev eH
      obtain rfl : u = Value.ref it := rv
      have I2 : Inv X pins σ (upd H1 it (ItT l it 0)) s2 := I1.call' (ch := []) os un ok2 ba fun b z => by simp at z
      have st : s2.heap.IsTupleIter it l 0 := (I2.hok it _ upd_same).1
      have I3 := ItX.inv_drop I2 (a := it) (φ := fun h => h.IsTupleIter it l 0) upd_same
      rw [ItX.dropH_upd hn] at I3
      unfold PySem.W.OwitIt
      refine wpAny_specialOf (name := Str.ofString "__next__") st.typeIs PySem.F.slot_tuple_iterator_next.lookup ?_
      refine ⟨it, [it], _, _, H1, rfl, I3, turn_tuple l it, st, fun b hb => ?_, q⟩
      have e : b = it := by simpa using hb
      subst e
      have z := ItX.inv_fp I2 (a := b) (u := ItT l b 0) upd_same (Nat.le_trans I1.sz hle)
      rw [ItX.dropH_upd hn] at z
      exact z
end TS
end
/-! G5 -/
set_option linter.all false
set_option maxRecDepth 100000
set_option maxHeartbeats 4000000
noncomputable section
/-! {**d, k: v} -/
namespace TS
open PySem PySem.Spec PyProof.Rows L2 PySem.Froz Evl
section
variable {prog : Program} {w : World} {K : Type} [DecidableEq K] {knd : KeyKind prog w K} {A : Around} {E : Value → Shared → Prop} {s : Shared}
theorem put_pairs {d : Addr} {kvs : List (K × Value)} {k : K} {key v : Value} {Q : Unit → Shared → Prop} (hkey : knd.is k key = true) (hm : s.heap.DictOf knd d kvs)
    (hQ : ∀ h', h'.DictOf knd d (stored kvs k v) → Heap.SameBut d s.heap h' → Q () { s with heap := h' })
    (hsz : kvs.length ≤ sizeLine) : wpAny (model prog w) A (dictPut d (knd.hash k) key v) Q E s := by
  obtain ⟨o, es, ep, ho, hc, hd, hk, hp, hn⟩ := hm
  have hes : es.size ≤ sizeLine := by
    have e1 := hp.length
    have e2 : es.toList.length = es.size := by simp
    omega
  unfold dictPut
  refine wpAny_bind (wpAny_dictFind_of hkey ho hd hk ?_)
  have hix : (es.findIdx? fun e => knd.is k e.key) = kvs.findIdx? fun kv => decide (kv.1 = k) := by
    rw [← hp.findIdx k]; obtain ⟨l⟩ := es; simp
  cases hi : es.findIdx? fun e => knd.is k e.key with
  | some i =>
    refine wpAny_updateDict ho hd (hQ _ ⟨_, _, ep, Heap.get?_update_self _ ho (Obj.isFreed_of_dict (Obj.data_mapDict hd _)), hc.mapDict _, Obj.data_mapDict hd _, hk.modify _ _, ?_, ?_⟩ (Heap.SameBut.update ..))
    · rw [stored, if_pos (any_of_findIdx_some (hix ▸ hi))]
      have hl : (es.toList.findIdx? fun e => knd.is k e.key) = some i := by rw [← hi]; obtain ⟨l⟩ := es; simp
      have z := hp.modify hn hl v
      obtain ⟨l⟩ := es
      simpa using z
    · rw [stored, if_pos (any_of_findIdx_some (hix ▸ hi)), keys_map_store]; exact hn
  | none =>
    have nk : k ∉ kvs.map (·.1) := not_mem_of_findIdx_none (hix ▸ hi)
    have na : ¬ (kvs.any fun kv => decide (kv.1 = k)) = true := by
      rw [List.any_eq_true]; rintro ⟨kv, h1, h2⟩
      exact nk (List.mem_map.mpr ⟨kv, h1, of_decide_eq_true h2⟩)
    refine wpAny_updateDictKeys (hz := hes) ho hd (hQ _ ⟨_, _, ep + 1, Heap.get?_update_self _ ho (Obj.isFreed_of_dict (Obj.data_mapDictKeys hd _)), hc.mapDictKeys _, Obj.data_mapDictKeys hd _, hk.push hkey _, ?_, ?_⟩ (Heap.SameBut.update ..))
    · rw [stored, if_neg na]
      have z := hp.append hkey (knd.hash k) v
      obtain ⟨l⟩ := es
      simpa using z
    · rw [stored, if_neg na, List.map_append, List.nodup_append]
      refine ⟨hn, by simp, fun a ha b hb => ?_⟩
      simp only [List.map_cons, List.map_nil, List.mem_singleton] at hb
      subst hb
      exact fun e => nk (e ▸ ha)
theorem wpAny_mergeMapping {d o : Addr} {kvs more : List (K × Value)} {Q : Unit → Shared → Prop} (hdo : d ≠ o) (hoS : (o == sysModules) = false) (hd : s.heap.DictOf knd d kvs) (ho : s.heap.DictOf knd o more)
    (hnr : ∀ k key, knd.is k key = true → ∀ a, key ≠ Value.ref a)
    (hQ : ∀ h', h'.DictOf knd d (merged kvs more) → h'.DictOf knd o more → Heap.SameBut d s.heap h' → Q () { s with heap := h' }) (hsz : kvs.length + more.length ≤ sizeLine) :
    wpAny (model prog w) A (mergeMapping d (.ref o) false) Q E s := by
  obtain ⟨od, esd, epd, hod, hcd, hdd, hkd, hpd, hnd⟩ := id hd
  obtain ⟨oo, eso, epo, hoo, hco, hdo', hko, hpo, hno⟩ := id ho
  have hlen : more.length = eso.size := by rw [← hpo.length]; simp
  have hT : s.TypeIs (.ref o) "dict" := ho.mapOf.typeIs
  unfold mergeMapping
  refine wpAny_bind (wpAny_isInstance (T := "dict") (b := true) hT (by rw [isSubtype_type]; kernel_rfl) ?_)
  dsimp only
  rw [if_pos rfl]
  refine wpAny_bind (wpAny_specialOf (name := Str.ofString "__iter__") hT F.slot_dict_iter.lookup (wpAny_bind (wpAny_pure ?_)))
  simp only [show (some (Value.builtin "dict.__iter__") == some (Value.builtin "dict.__iter__")) = true from by decide, hoS, Bool.false_eq_true, if_false]
  refine wpAny_bind (wpAny_dictEntries hod hdd ?_)
  have tail : wpAny (model prog w) A (dictEntries o >>= fun l => dictEpoch o >>= fun epoch => (forIn (List.range l.size) PUnit.unit fun i __s => (dictEntries o >>= fun l2 => match l2[i]? with
        | some e => holding [e.key, e.val] (dictPut d e.hash e.key e.val) >>= fun _ => dictEpoch o >>= fun ep2 => if (ep2 != epoch) = true then (unsupported "dict.changed-during-merge" : Sem Unit) >>= fun _ => pure (ForInStep.yield PUnit.unit) else pure (ForInStep.yield PUnit.unit)
        | _ => (unsupported "dict.changed-during-merge" : Sem Unit) >>= fun _ => pure (ForInStep.yield PUnit.unit) : Sem (ForInStep PUnit))) >>= fun _ => pure ()) Q E s := by
    refine wpAny_bind (wpAny_dictEntries hoo hdo' (wpAny_bind (wpAny_dictEpoch hoo hdo' (wpAny_bind ?_))))
    rw [List.range_eq_range']
    refine wpAny_forIn_list _ (fun rest _ t => ∃ h' i, t = { s with heap := h' } ∧ rest = List.range' i (eso.size - i) ∧ i ≤ eso.size ∧ h'.DictOf knd d (merged kvs (more.take i)) ∧ h'.get? o = some oo ∧ Heap.SameBut d s.heap h') _ ?_ ?_ _ _
      ⟨s.heap, 0, rfl, by simp, Nat.zero_le _, by simpa [merged] using hd, hoo, Heap.SameBut.refl _ _⟩
    · rintro x rest b t ⟨h', i, rfl, hr, hi, hd', ho2, hs'⟩
      have hlt : i < eso.size := by
        rcases Nat.lt_or_ge i eso.size with h | h
        · exact h
        · rw [Nat.sub_eq_zero_of_le h] at hr; simp at hr
      have e0 : eso.size - i = (eso.size - (i + 1)) + 1 := by omega
      rw [e0, List.range'_succ] at hr
      injection hr with h1 h2
      subst h1
      refine wpAny_bind (wpAny_dictEntries ho2 hdo' ?_)
      rw [Array.getElem?_eq_getElem hlt]
      obtain ⟨⟨k, v⟩, hkv⟩ : ∃ kv, more[x]? = some kv := ⟨more[x]'(by rw [hlen]; exact hlt), List.getElem?_eq_getElem _⟩
      obtain ⟨hkey, hval⟩ := hpo.get? (e := eso[x]) (by simp [hlt]) hkv
      obtain ⟨k2, hkey2, hhash⟩ := hko eso[x] (Array.getElem_mem hlt)
      obtain rfl : k2 = k := knd.inj _ _ _ hkey2 hkey
      show wpAny _ _ (holding [eso[x].key, eso[x].val] (dictPut d eso[x].hash eso[x].key eso[x].val) >>= _) _ _ _
      rw [hhash, hval]
      have hmx : (merged kvs (more.take x)).length ≤ sizeLine := by
        have e1 := merged_length_le kvs (more.take x)
        have e2 : (more.take x).length ≤ more.length := by rw [List.length_take]; omega
        omega
      refine wpAny_bind (wpAny_holding (put_pairs hkey hd' (fun h3 hd3 hs3 => ?_) hmx))
      have ho3 : h3.get? o = some oo := (hs3.2 o (Ne.symm hdo)).trans ho2
      refine wpAny_bind (wpAny_dictEpoch ho3 hdo' ?_)
      rw [if_neg (by simp)]
      exact wpAny_pure ⟨h3, x + 1, rfl, h2, hlt, by rw [merged_take_succ kvs more x (k2, v) hkv]; exact hd3, ho3, hs'.trans hs3⟩
    · rintro b t ⟨h', i, rfl, hr, hi, hd', ho2, hs'⟩
      have hin : i = eso.size := by
        rcases Nat.lt_or_ge i eso.size with h | h
        · have e : eso.size - i = (eso.size - (i + 1)) + 1 := by omega
          rw [e, List.range'_succ] at hr; exact nomatch hr
        · exact Nat.le_antisymm hi h
      refine wpAny_pure (hQ h' ?_ ⟨oo, eso, epo, ho2, hco, hdo', hko, hpo, hno⟩ hs')
      rw [hin, ← hlen, List.take_length] at hd'; exact hd'
  split
  · refine wpAny_bind (wpAny_dictEntries hoo hdo' (wpAny_bind ?_))
    rw [← Array.forIn_toList]
    refine wpAny_forIn_list _ (fun rest _ t => t = s ∧ ∀ e ∈ rest, ∃ k, knd.is k e.key = true) _ ?_ ?_ _ _ ⟨rfl, fun e he => ?_⟩
    · rintro x rest b t ⟨rfl, hk⟩
      obtain ⟨k, hx⟩ := hk x List.mem_cons_self
      have nr := hnr k x.key hx
      split
      · exact absurd (by assumption) (nr _)
      · exact wpAny_pure ⟨rfl, fun e he => hk e (List.mem_cons_of_mem _ he)⟩
    · rintro b t ⟨rfl, _⟩
      exact tail
    · obtain ⟨k2, hkey2, _⟩ := hko e (by simpa using he)
      exact ⟨k2, hkey2⟩
  · exact tail
end
section
variable {prog : Program} {w : World} {A : Around} {E : Value → Shared → Prop} {s : Shared}
/-- a display of one starred part and one pair, as a tree -/
theorem display_star {x k v : Sem Value} {Q : Value → Shared → Prop}
    (h : wpAny (model prog w) A x (fun m s1 => wpAny (model prog w) A (mergeMapping s.heap.objs.size m false) (fun _ s2 => wpAny (model prog w) A (subDict [(k, v)]) (fun p s3 => wpAny (model prog w) A (mergeMapping s.heap.objs.size (.ref p) false) (fun _ s4 => Q (.ref s.heap.objs.size) s4) (fun _ _ => False) s3) E s2) (fun _ _ => False) s1) E
      { s with heap := s.heap.push { cls := .type "dict", data := .dict #[] } }) : wpAny (model prog w) A (dictDisplay [(none, x), (some k, v)]) Q E s := by
  unfold dictDisplay
  refine wpAny_bind ?_
  rw [List.forIn_cons]
  dsimp only
  rw [if_pos (show ([] : List (Sem Value × Sem Value)).isEmpty = true from rfl)]
  refine wpAny_bind (wpAny_bind (wpAny_pure ?_))
  dsimp only
  refine wpAny_bind (wpAny_alloc ?_)
  refine wpAny_bind (wpAny_holding (wpAny_mono h (fun m s1 h1 => ?_) fun _ _ z => z))
  refine wpAny_bind (wpAny_onRaise (wpAny_tryCatch (wpAny_onRaise (wpAny_holding (wpAny_mono h1 (fun _ s2 h2 => wpAny_pure ?_) fun _ _ z => z.elim)))))
  dsimp only
  rw [List.forIn_cons]
  dsimp only
  rw [if_neg (show ¬ ((([] ++ [(k, v)] : List (Sem Value × Sem Value)).length == 17) = true) from Bool.false_ne_true)]
  refine wpAny_bind (wpAny_pure ?_)
  dsimp only
  rw [List.forIn_nil]
  refine wpAny_pure ?_
  dsimp only
  rw [if_neg (show ¬ ([] ++ [(k, v)] : List (Sem Value × Sem Value)).isEmpty = true from Bool.false_ne_true)]
  refine wpAny_bind (wpAny_bind (wpAny_holding (wpAny_mono h2 (fun p s3 h3 => ?_) fun _ _ z => z)))
  exact wpAny_bind (wpAny_onRaise (wpAny_holding (wpAny_mono h3 (fun _ s4 h4 => wpAny_pure (wpAny_pure h4)) fun _ _ z => z.elim)))
end
end TS
end
/-! G6 -/
set_option linter.all false
set_option maxRecDepth 100000
set_option maxHeartbeats 4000000
noncomputable section
namespace TS
open PySem PySem.Spec PyProof.Rows L2 PySem.Froz Evl

theorem key_noref {P : Program} {w : World} : ∀ k key, (mixKind P w).is k key = true → ∀ a, key ≠ Value.ref a := fun k key h a e => by
  subst e
  rcases keyIs_shape h with ⟨i, t, _, e⟩ | ⟨x, t, _, e⟩ <;> cases e
/-- {**d, k: v} -/
def tDispS (td tk tv : TE) : TE := fun σ H Q => ∀ d, H d = none → td σ (upd H d (.dK [])) fun x H1 => ∃ o kvs, x = .ref o ∧ H1 d = some (.dK []) ∧ Rd H1 o (.dK kvs) ∧ d ≠ o ∧ kvs.length ≤ 1000 ∧
  ∀ p, H1 p = none → tPairs [(tk, tv)] σ (upd (upd H1 d (.dK (mergeK [] kvs))) p (.dK [])) fun ps H2 => ∃ key z, ps = [(kV key, z)] ∧ H2 p = some (.dK []) ∧ H2 d = some (.dK (mergeK [] kvs)) ∧
    Q (.ref d) (upd (upd H2 p (.dK [(key, z)])) d (.dK (putK (mergeK [] kvs) key z)))
theorem pe_dispS {X : Cx} {pos : Pos} {e k v : Expr} {td tk tv : TE} (he : PE X e td) (hk : PE X k tk) (hv : PE X v tv)
    (hs : eval (.Dict [none, some k] [e, v] pos) X.env = (standAt pos >>= fun _ => dictDisplay [(none, eval e X.env >>= fun x => standAt pos >>= fun _ => pure x), (some (eval k X.env), eval v X.env >>= fun x => standAt pos >>= fun _ => pure x)]) := by rfl) :
    PE X (.Dict [none, some k] [e, v] pos) (tDispS td tk tv) := by
  refine ⟨fun pins s σ H Q I h => ?_⟩
  rw [hs]
  refine wpAny_bind (wpAny_standAt (display_star ?_))
  have hn := I.hok.fresh (Nat.le_refl s.heap.objs.size)
  have I1 := I.laid (a := s.heap.objs.size) (o := .dK []) (h' := s.heap.push { cls := .type "dict", data := .dict #[] }) (t' := s.toks) (fun _ _ q => Heap.get?_push_of_some _ q) (Nat.le_refl _) (dk_empty s.heap I.big)
  refine wpAny_bind (thn (he.run pins _ σ _ _ I1 (h _ hn)) fun m s1 ⟨x, H1, I2, r1, o, kvs, ex, hd, ho, hdo, hz, q⟩ => wpAny_bind (wpAny_standAt (wpAny_pure ?_)))
  subst ex
  obtain rfl : m = Value.ref o := r1
  obtain ⟨z0, hs0, vs0, r0, dd0⟩ := dk_of I2.hok hd
  cases r0
  obtain ⟨z1, hs1, vs1, rk1, dd1⟩ := dk_rd I2.hok ho
  have hl1 : vs1.length ≤ 1000 := by rw [← rk1.length]; exact hz
  refine wpAny_mergeMapping (knd := mixKind X.prog X.w) hdo hs1 dd0 dd1 key_noref (fun h1 da _ sb => ?_) (by show 0 + vs1.length ≤ _; exact sz_of (by omega))
  have m1 : (mergeK [] kvs).length ≤ 1000 := by
    have := length_mergeK kvs []
    rw [List.length_nil] at this; omega
  have I3 : Inv X pins σ (upd H1 s.heap.objs.size (.dK (mergeK [] kvs))) { s1 with heap := h1 } :=
    d_write (t' := s1.toks) I2 (by rw [hd]; exact True.intro) sb (let ⟨q, _, _, hq, _⟩ := da; ⟨q, hq⟩) (dk_new (sz_of (by omega)) hs0 (rk1.merge .nil) da)
  have hn3 := I3.hok.fresh (Nat.le_refl h1.objs.size)
  have hn1 : H1 h1.objs.size = none := by
    by_cases e : h1.objs.size = s.heap.objs.size
    · rw [e, upd_same] at hn3; cases hn3
    · rw [upd_ne e] at hn3; exact hn3
  have I4 := I3.laid (a := h1.objs.size) (o := .dK []) (h' := h1.push { cls := .type "dict", data := .dict #[] }) (t' := s1.toks) (fun _ _ q => Heap.get?_push_of_some _ q) (Nat.le_refl _) (dk_empty h1 I3.big)
  refine wpAny_subDict (s := { s1 with heap := h1 }) (knd := mixKind X.prog X.w) (pairs := pairTrees [some k] [v] X.env pos) (show 1 ≤ 15 by decide) ?_
  refine thn ((pps_cons (pos := pos) hk hv pps_nil).run pins _ σ _ _ I4 (q _ hn1)) fun ws s2 ⟨ps, H2, I5, rel, key, z, ep, hp2, hd2, qq⟩ => ?_
  subst ep
  obtain ⟨rs, c, rk⟩ := carries_of (P := X.prog) (w := X.w) (kvs := [(key, z)]) (by simpa using rel)
  obtain ⟨z3, hs3, vs3, r3, dd3⟩ := dk_of I5.hok hp2
  cases r3
  refine ⟨rs, c, dd3, fun h2 db sb2 => ?_⟩
  have hne : h1.objs.size ≠ s.heap.objs.size := fun e => by rw [e, upd_same] at hn3; cases hn3
  have I6 : Inv X pins σ (upd H2 h1.objs.size (.dK (mergeK [] [(key, z)]))) { s2 with heap := h2, toks := s2.toks + ws.length } :=
    d_write (t' := s2.toks + ws.length) I5 (by rw [hp2]; exact True.intro) sb2 (let ⟨q, _, _, hq, _⟩ := db; ⟨q, hq⟩) (dk_new (sz_of (by show 1 ≤ _; decide)) hs3 (rk.merge .nil) db)
  have hd6 : upd H2 h1.objs.size (.dK (mergeK [] [(key, z)])) s.heap.objs.size = some (.dK (mergeK [] kvs)) := by rw [upd_ne (Ne.symm hne)]; exact hd2
  obtain ⟨z5, hs5, vs5, rk5, dd5⟩ := dk_of I6.hok hd6
  obtain ⟨z6, hs6, vs6, rk6, dd6⟩ := dk_of I6.hok (upd_same : upd H2 h1.objs.size (.dK (mergeK [] [(key, z)])) h1.objs.size = _)
  have l5 : vs5.length ≤ 1000 := by rw [← rk5.length]; exact m1
  have l6 : vs6.length = 1 := by rw [← rk6.length]; rfl
  refine wpAny_mergeMapping (knd := mixKind X.prog X.w) (Ne.symm hne) hs6 dd5 dd6 key_noref (fun h3 dc _ sb3 => ?_) (sz_of (by omega))
  refine ⟨.ref s.heap.objs.size, _, d_write (t' := s2.toks + ws.length) I6 (by rw [hd6]; exact True.intro) sb3 (let ⟨q, _, _, hq, _⟩ := dc; ⟨q, hq⟩) (dk_new (kvs := putK (mergeK [] kvs) key z) (sz_of ?_) hs5 (rk6.merge rk5) dc), rfl, qq⟩
  have := length_putK (mergeK [] kvs) key z
  omega
end TS
end
/-! G7 -/
set_option linter.all false
set_option maxRecDepth 100000
set_option maxHeartbeats 4000000
noncomputable section
/-! for c in reversed(text) -/
namespace TS
open PySem PySem.Spec PyProof.Rows L2 PySem.Froz Evl

/-- reversed(x), x a text, the next place i -/
def IsRs (h : Heap) (a : Addr) (x : PySem.Str) (t : Tok) (i : Int) : Prop := ∃ o, h.get? a = some o ∧ o.cls = .type "reversed" ∧ o.data = .fields #[.str x t, rawInt i]
theorem IsRs.at {h h' : Heap} {a : Addr} {x : PySem.Str} {t : Tok} {i : Int} (z : IsRs h a x t i) (e : ∀ o, h.get? a = some o → h'.get? a = some o) : IsRs h' a x t i := let ⟨o, ho, r⟩ := z; ⟨o, e _ ho, r⟩
theorem norev_str : typeLookup (.type "str") "__reversed__" = pure none := by rw [typeLookup_type, builtinLookup_eq_fast]; kernel_rfl
theorem get_str : typeLookup (.type "str") "__getitem__" = pure (some (.builtin "str.__getitem__")) := by rw [typeLookup_type, builtinLookup_eq_fast]; kernel_rfl
theorem sub_str_dict : isSubtype (.type "str") (.type "dict") = pure false := by rw [isSubtype_type]; kernel_rfl
section
variable {prog : Program} {w : World} {A : Around} {E : Value → Shared → Prop} {s : Shared} {x : PySem.Str} {t : Tok}
theorem IsRs.typeIs {a : Addr} {i : Int} (z : IsRs s.heap a x t i) : s.TypeIs (.ref a) "reversed" := let ⟨o, ho, hc, _⟩ := z; ⟨o, ho, hc⟩
theorem code_reversed_str {Q₁ : Value → Shared → Prop} (hz : x.length ≤ 100000)
    (h : Q₁ (.ref s.heap.objs.size) { s with heap := s.heap.push { cls := .type "reversed", data := .fields #[.str x t, rawInt ((x.length : Int) - 1)] }, toks := s.toks + 1 + 1 }) :
    codeAny (model prog w) A (.call (.builtin "reversed.__new__") ⟨[.type "reversed", .str x t], []⟩) (wants Q₁ E) s := by
  have hT : s.TypeIs (.str x t) "str" := typeIs_str s x t
  refine codeAny_of_tree (show wpAny _ A.in1 (checkBuiltinCall "reversed.__new__" ⟨[.type "reversed", .str x t], []⟩ >>= fun _ => again (.builtin "reversed.__new__" ⟨[.type "reversed", .str x t], []⟩)) _ _ s from ?_)
  refine wpAny_bind (wpAny_of_eq (F.newCall_reversed_1 (.str x t)) (wpAny_pure ⟨plainId_quiet F.plain_reversed_new _, codeAny_builtin F.entry_reversed_new ?_⟩))
  rw [Around.under_plainId F.plain_reversed_new _]; unfold Builtin.«reversed.__new__»
  refine wpAny_bind (wpAny_of_eq (newClass_reversed _) (wpAny_bind (wpAny_of_eq (a := ()) (by first | rfl | kernel_rfl) (wpAny_bind (wpAny_of_eq (a := ()) (by first | rfl | kernel_rfl) ?_)))))
  try dsimp only
  refine wpAny_bind (wpAny_specialOf hT norev_str ?_)
  try dsimp only
  refine wpAny_bind ?_
  wp_delta
  refine wpAny_bind (wpAny_isInstance (T := "str") (U := "dict") (b := false) hT sub_str_dict ?_)
  try dsimp only
  try rw [if_neg Bool.false_ne_true]
  try dsimp only
  refine wpAny_bind (wpAny_specialOf hT get_str ?_)
  try dsimp only
  try rw [if_pos (by decide +kernel)]
  refine wpAny_pure ?_
  try dsimp only
  try rw [if_neg (by decide)]
  try dsimp only
  refine wpAny_bind (len_str (by omega) (wpAny_bind (wpAny_of_eq (a := some ((x.length : Nat) : Int)) rfl ?_)))
  try dsimp only
  refine wpAny_bind (show wpAny _ _ (newObj (.type "reversed") (.fields #[.str x t, rawInt ((x.length : Int) - 1)])) _ _ _ from wpAny_newObj_type (wpAny_pure h))
theorem call_reversed_str {Q : Value → Shared → Prop} (hz : x.length ≤ 100000)
    (h : Q (.ref s.heap.objs.size) { s with heap := s.heap.push { cls := .type "reversed", data := .fields #[.str x t, rawInt ((x.length : Int) - 1)] }, toks := s.toks + 1 + 1 }) : wpAny (model prog w) A (call (.type "reversed") [.str x t]) Q E s := by
  refine callType_codes (Q₁ := fun obj t => t.TypeIs obj "reversed" ∧ Q obj t) RT.called_rt (F.typeCall_reversed_1 _) F.entry_object_init (code_reversed_str (A := A.in1) hz ⟨⟨_, Heap.get?_push_size _ rfl, rfl⟩, h⟩) fun obj t ht => ?_
  exact ⟨ht.1, F.args_object_init_2 obj _, object_init_meets RT.called_rt.init.lookup RT.called_rt.made (by decide) prog w A.in1 _ t ⟨ht.1, rfl, ht.2⟩⟩
theorem next_rs_item {it : Addr} {i c : Nat} {Q : Option Value → Shared → Prop} (hit : IsRs s.heap it x t (i : Int)) (hx : x.cps[i]? = some c) (hz : x.length ≤ 100000)
    (hQ : ∀ h' tk u, IsRs h' it x t ((i : Int) - 1) → Heap.SameBut it s.heap h' → Q (some (.str ⟨#[c]⟩ u)) { s with heap := h', toks := tk }) : wpAny (model prog w) A (pyNext (.ref it)) Q E s := by
  obtain ⟨o, ho, hc, hd⟩ := id hit
  have hi : i < x.cps.size := (Array.getElem?_eq_some_iff.mp hx).1
  have hi2 : i < x.length := hi
  unfold pyNext
  refine wpAny_bind (wpAny_attempt (wpAny_callSpecial?_slot (name := Str.ofString "__next__") hit.typeIs RT.slot_rt_next (wpAny_call_entry RT.slot_rt_next hit.typeIs RT.entry_rt_next ?_ (RT.args_rt_next _))))
  unfold Builtin.«reversed.__next__»
  refine wpAny_bind (wpAny_of_eq (a := (Value.ref it, [])) rfl (wpAny_bind (wpAny_field ho hd (x := .str x t) rfl (wpAny_bind (wpAny_field ho hd (x := rawInt (i : Int)) rfl ?_)))))
  show wpAny _ _ (if (i : Int) < 0 then _ else _) _ _ s
  rw [if_neg (by omega)]
  refine wpAny_bind (wpAny_specialOf (typeIs_str s x t) get_str ?_)
  try dsimp only
  try rw [if_neg (by decide)]
  try dsimp only
  refine wpAny_bind (wpAny_mkInt (wpAny_bind (wpAny_attempt ?_)))
  have fin : seqIndex? (i : Int) x.length = some i := seqIndex_of (by omega) (by omega)
  refine PyProof.Rows.getItem_str (s := { s with toks := s.toks + 1 }) (c := c) ?_ (by rw [fin]; exact hx) ?_
  · have e1 : decide ((i : Int) < -(2 ^ 63 : Int)) = false := decide_eq_false (by omega)
    have e2 : decide ((i : Int) ≥ 2 ^ 63) = false := decide_eq_false (by omega)
    rw [e1, e2, Bool.or_false]
  try dsimp only
  refine wpAny_bind (wpAny_field (s := { s with toks := s.toks + 1 + 1 }) ho hd (x := rawInt (i : Int)) rfl ?_)
  try dsimp only
  refine wpAny_bind (wpAny_setField (s := { s with toks := s.toks + 1 + 1 }) ho hd (by simp) ?_)
  first
  | refine wpAny_pure ⟨_, rfl, wpAny_pure (hQ _ _ _ ?_ (Heap.SameBut.update ..))⟩
  | refine wpAny_bind (wpAny_pure (wpAny_pure ⟨_, rfl, wpAny_pure (hQ _ _ _ ?_ (Heap.SameBut.update ..))⟩))
  exact ⟨_, Heap.get?_update_self _ ho (Obj.isFreed_of_fields (Obj.data_mapFields hd _)), (Obj.cls_mapFields ..).trans hc, by rw [Obj.data_mapFields hd]; simp⟩
theorem next_rs_end {it : Addr} {Q : Option Value → Shared → Prop} (hh : A.handled = none) (hit : IsRs s.heap it x t (-1))
    (hQ : ∀ h', Heap.ExtBut it s.heap h' → Q none { s with heap := h' }) : wpAny (model prog w) A (pyNext (.ref it)) Q E s := by
  obtain ⟨o, ho, hc, hd⟩ := id hit
  unfold pyNext
  refine wpAny_bind (wpAny_attempt (wpAny_callSpecial?_slot (name := Str.ofString "__next__") hit.typeIs RT.slot_rt_next (wpAny_call_entry RT.slot_rt_next hit.typeIs RT.entry_rt_next ?_ (RT.args_rt_next _))))
  unfold Builtin.«reversed.__next__»
  refine wpAny_bind (wpAny_of_eq (a := (Value.ref it, [])) rfl (wpAny_bind (wpAny_field ho hd (x := .str x t) rfl (wpAny_bind (wpAny_field ho hd (x := rawInt (-1)) rfl ?_)))))
  show wpAny _ _ (if (-1 : Int) < 0 then _ else _) _ _ s
  rw [if_pos (by decide)]
  refine wpAny_bind (wpAny_rule (wpAny_bind ?_))
  wp_delta
  refine wpAny_bind (wpAny_setField ho hd (by simp) ?_)
  have ho2 := Heap.get?_update_self (Obj.mapFields (·.setIfInBounds 1 (rawInt (-1)))) ho (Obj.isFreed_of_fields (Obj.data_mapFields hd _))
  refine wpAny_setField (s := { s with heap := _ }) ho2 (Obj.data_mapFields hd _) (by simp) ?_
  try dsimp only
  first
  | show wpAny _ _ (newExc (.type "StopIteration") [] >>= _) _ _ _
  | (refine wpAny_bind ?_; show wpAny _ _ (newExc (.type "StopIteration") [] >>= _) _ _ _)
  | (refine wpAny_bind ?_; wp_delta; show wpAny _ _ (newExc (.type "StopIteration") [] >>= _) _ _ _)
  refine wpAny_bind ?_
  simp only [newExc, newTuple]
  refine wpAny_bind (wpAny_newObj_type (wpAny_bind (m := firstArgMember _ _) (wpAny_of_eq (a := Value.none) (by first | rfl | (simp only [firstArgMember]; rfl)) (wpAny_newObj_type ?_ (by size_fits)))) (by size_fits))
  simp only [raiseNew]
  refine wpAny_bind (wpAny_handled ?_)
  first | rw [show A.in1.handled = none from hh] | rw [hh]
  refine wpAny_bind (wpAny_pure (wpAny_throw ?_))
  refine wpAny_bind (wpAny_isInstance (T := "StopIteration") (b := true) (show _ from ⟨_, Heap.get?_push_size _ rfl, rfl⟩) isSubtype_stop (wpAny_pure (hQ _ ?_)))
  refine ((?_ : Heap.ExtBut it s.heap _).push _).push _
  exact fun b ob hb e => (Heap.get?_update_other _ _ (Ne.symm hb)).trans ((Heap.get?_update_other _ _ (Ne.symm hb)).trans e)
theorem iter_rs {it : Addr} {i : Int} {Q : Value → Shared → Prop} (hit : IsRs s.heap it x t i) (h : Q (.ref it) s) : wpAny (model prog w) A (pyIter (.ref it)) Q E s := by
  refine wpAny_pyIter_slot hit.typeIs RT.slot_rt_iter (wpAny_call_entry RT.slot_rt_iter hit.typeIs RT.entry_rt_iter (show wpAny _ _ (ret (.ref it)) _ _ s from ?_) (RT.args_rt_iter _))
  exact wpAny_pure ⟨_, rfl, "reversed", _, hit.typeIs, RT.slot_rt_next.lookup, h⟩
end
/-- the signs of x from its end -/
def Itsr (x : PySem.Str) : It := ⟨fun i _ => i < x.cps.size, fun i H v H' => H' = H ∧ ∃ c, x.cps[x.cps.size - 1 - i]? = some c ∧ v = .str ⟨#[c]⟩, fun i _ => x.cps.size ≤ i⟩
theorem turn_rs {P : Program} {w : World} {K : PySem.W.Frag} {tg : Expr} (it : Addr) (x : PySem.Str) (t : Tok) (hz : x.length ≤ 100000) : Turn P w K tg (Itsr x) [it] it (fun i h => i ≤ x.cps.size ∧ IsRs h it x t ((x.cps.size : Int) - 1 - (i : Nat))) where
  mem := by simp
  obj := fun i h st b hb => by
    obtain rfl : b = it := by simpa using hb
    obtain ⟨_, o, e, c, d⟩ := st
    exact ⟨o, e, fun v z => by rw [d] at z; cases z⟩
  keep := fun i h h' st k => ⟨st.1, st.2.at fun o => k it (by simp) o⟩
  item := by
    intro X hP hw hK hc i pins s σ H E I hf st hg
    subst hP hw hK
    have hg : i < x.cps.size := hg
    obtain ⟨f0, f1, f2, f3, f4, f5⟩ := hf it (by simp)
    obtain ⟨_, hit⟩ := st
    have e1 : (x.cps.size : Int) - 1 - ((i : Nat) : Int) = ((x.cps.size - 1 - i : Nat) : Int) := by omega
    rw [e1] at hit
    obtain ⟨c, hx⟩ : ∃ c, x.cps[x.cps.size - 1 - i]? = some c := ⟨_, Array.getElem?_eq_getElem (by omega)⟩
    refine next_rs_item hit hx hz fun h' tk u st' sb => ?_
    have e2 : ((x.cps.size - 1 - i : Nat) : Int) - 1 = (x.cps.size : Int) - 1 - ((i + 1 : Nat) : Int) := by omega
    rw [e2] at st'
    have I1 : Inv X pins σ H { s with heap := h', toks := tk } := I.turned (t' := tk) (fun b o hb e => (sb.2 b hb).trans e) f0 f1 f3 f4 f5
    obtain ⟨o, e, cc, d⟩ := id st'
    exact ⟨_, rfl, go_of (s := { s with heap := h', toks := tk }) e cc d (by decide) ⟨.str ⟨#[c]⟩, H, I1, ⟨u, rfl⟩, ⟨rfl, c, hx, rfl⟩, ⟨hg, st'⟩, fun b hb => (hf b hb).1⟩⟩
  done := by
    intro X hP hw hK hc i pins s σ H E I hf st hg
    subst hP hw hK
    have hg : x.cps.size ≤ i := hg
    obtain ⟨f0, f1, f2, f3, f4, f5⟩ := hf it (by simp)
    obtain ⟨hin, hit⟩ := st
    have e1 : (x.cps.size : Int) - 1 - ((i : Nat) : Int) = -1 := by omega
    rw [e1] at hit
    exact next_rs_end (I.ok.hd hc) hit fun h' eb => ⟨rfl, I.turned (t' := s.toks) (fun b o hb e => eb b o hb e) f0 f1 f3 f4 f5⟩
  self := fun A i s Q E st h => iter_rs st.2 h
def iRevS (te : TE) : TI := fun σ H R => te σ H fun v H1 => ∃ x : PySem.Str, v = .str x ∧ x.length ≤ 100000 ∧ R (Itsr x) H1
theorem pi_revS {X : Cx} {tg e : Expr} {te : TE} {p pos : Pos} (hg : Gl X "reversed") (hm : X.mg "reversed" = none) (he : PE X e te) (hs : starEach [e] X.env = (false, eval e X.env) :: starEach [] X.env := by rfl) : PI X tg (.Call (.Name "reversed" p) [e] [] pos) (iRevS te) := by
  refine ⟨fun pins s σ H R I h => ?_⟩
  refine Call_ (ld_blt I hg hm PyProof.Rows.boot_reversed (PyProof.Rows.callWith_type1 (PyProof.Rows.args_cons (thn (he.run pins s σ H _ I h) fun u s1 ⟨v, H1, I1, r1, x, ev, hz, q⟩ => PyProof.Rows.args_nil ?_) hs) hs rfl))
  subst ev
  obtain ⟨t, rfl⟩ := r1
  refine call_reversed_str hz (iter_rs (x := x) (t := t) (i := (x.length : Int) - 1) ⟨_, Heap.get?_push_size _ rfl, rfl, rfl⟩ ?_)
  refine pi_one (tk := s1.toks + 1 + 1) I1 _ (turn_rs _ x t hz) ⟨Nat.zero_le _, ?_⟩ q
  have e1 : (x.cps.size : Int) - 1 - ((0 : Nat) : Int) = (x.length : Int) - 1 := by show (x.cps.size : Int) - 1 - 0 = (x.cps.size : Int) - 1; omega
  rw [e1]
  exact ⟨_, Heap.get?_push_size _ rfl, rfl, rfl⟩
theorem goes_rs {x : PySem.Str} {Hc : Hp → Prop} : Goes (Itsr x) Hc (signsV x).reverse where
  go := fun i y H hx _ => by have := (List.getElem?_eq_some_iff.mp hx).1; rw [List.length_reverse, signsV_len] at this; exact this
  stop := fun i H hi _ => by rw [List.length_reverse, signsV_len] at hi; exact hi
  yld := fun i y H z H' hx _ hy => by
    obtain ⟨e, c, hc, rfl⟩ := hy
    have hi := (List.getElem?_eq_some_iff.mp hx).1
    rw [List.length_reverse] at hi
    rw [List.getElem?_reverse hi, signsV_len, signsV_at hc] at hx
    exact ⟨e, Option.some.inj hx⟩
theorem ei_revS {σ : L2.St} {H : Hp} {te : TE} {x : PySem.Str} (h : Ev te σ H (.str x)) (hz : x.length ≤ 100000) : EvI (iRevS te) σ H (signsV x).reverse := fun H1 e R q => h H1 e _ fun H2 e2 => ⟨x, rfl, hz, q _ H2 H e2 (Ex.refl H) (e.trans e2) (fun _ n _ => n) goes_rs⟩
end TS
end
/-! G8 -/
set_option linter.all false
set_option maxRecDepth 100000
set_option maxHeartbeats 4000000
noncomputable section
/-! [*xs, *text] and more readings -/
namespace TS
open PySem PySem.Spec PyProof.Rows L2 PySem.Froz Evl

theorem vals_pt : ∀ {xs : List V} {us : List Value}, xs.length = us.length → (∀ (j : Nat) x u, xs[j]? = some x → us[j]? = some u → RelV x u) → Vals xs us
  | [], [], _, _ => .nil
  | x :: xs, u :: us, hl, h => .cons (h 0 x u rfl rfl) (vals_pt (Nat.succ.inj hl) fun j y v h1 h2 => h (j + 1) y v h1 h2)
  | [], _ :: _, hl, _ => nomatch hl
  | _ :: _, [], hl, _ => nomatch hl
theorem slot_str_iter_some : typeLookup (.type "str") "__iter__" = pure (some (.builtin "str.__iter__")) := by rw [typeLookup_type, builtinLookup_eq_fast]; kernel_rfl
def tStarS (te : TE) (t : TA) : TA := fun σ H Q => te σ H fun x H1 => ∃ z : PySem.Str, x = .str z ∧ z.length ≤ 100000 ∧ t σ H1 fun ys H2 => Q (signsV z ++ ys) H2
theorem pa_starS {X : Cx} {e : Expr} {es : List Expr} {te : TE} {t : TA} {p : Pos} (hc : X.calm = true) (he : PE X e te) (hr : PA X es t) (hs : starEach (.Starred e p :: es) X.env = (true, eval e X.env) :: starEach es X.env := by rfl) : PA X (.Starred e p :: es) (tStarS te t) := by
  refine ⟨fun pos pins s σ H Q I h => PySem.W.items_star (thn (he.run pins s σ H _ I h) fun v s1 ⟨x, H1, I1, r1, z, ex, hz, q⟩ => ?_) hs⟩
  subst ex
  obtain ⟨tk, rfl⟩ := r1
  unfold PySem.W.StarOf notIterableAtAll
  refine wpAny_bind (wpAny_specialOf (typeIs_str s1 z tk) slot_str_iter_some (wpAny_pure ⟨rfl, ?_⟩))
  refine wpAny_collect_str (I1.ok.hd hc) z tk (fun s2 acc k g d o ⟨ha, hi⟩ => ?_) (sz_of hz)
  have es : s2 = { s1 with heap := s2.heap, toks := s2.toks } := by
    obtain ⟨a1, a2, a3, a4, a5⟩ := s2
    obtain ⟨b1, b2, b3, b4, b5⟩ := s1
    cases g; cases d; cases o
    rfl
  have I2 : Inv X pins σ H1 s2 := by rw [es]; exact I1.kept (t' := s2.toks) k
  have rv : Vals (signsV z) acc.toList := vals_pt (by rw [signsV_len, Array.length_toList, ha]) fun j x u h1 h2 => by
    obtain ⟨c, tk, hc, rfl⟩ := hi j u (by rw [← Array.getElem?_toList]; exact h2)
    rw [signsV_at hc] at h1
    obtain rfl := Option.some.inj h1
    exact ⟨tk, rfl⟩
  exact thn (hr.run pos pins s2 σ H1 _ I2 q) fun ws s3 ⟨vs, H3, I3, r3, q3⟩ => ⟨signsV z ++ vs, H3, I3, rv.append r3, q3⟩
section
variable {K : PySem.W.Frag} {σ : L2.St} {H : Hp} {te : TE} {t : TA} {xs ys : List V}
theorem ea_star {a : Addr} (h : Ev te σ H (.ref a)) (hs : SqT K H a xs ∨ SqL K H a xs) (hr : EvA t σ H ys) : EvA (StX.tStar K te t) σ H (xs ++ ys) := fun H1 e Q q => h H1 e _ fun H2 e2 =>
  ⟨a, xs, rfl, hs.elim (fun z => .inl (ex_t (e.trans e2) z)) (fun z => .inr (ex_l (e.trans e2) z)), hr H2 (e.trans e2) _ fun H3 e3 => q H3 (e2.trans e3)⟩
theorem ea_starS {z : PySem.Str} (h : Ev te σ H (.str z)) (hz : z.length ≤ 100000) (hr : EvA t σ H ys) : EvA (tStarS te t) σ H (signsV z ++ ys) := fun H1 e Q q => h H1 e _ fun H2 e2 =>
  ⟨z, rfl, hz, hr H2 (e.trans e2) _ fun H3 e3 => q H3 (e2.trans e3)⟩
end
end TS
end
/-! Z1 -/
set_option linter.all false
set_option maxRecDepth 100000
set_option maxHeartbeats 4000000
noncomputable section
namespace Z
open PySem PySem.Spec PyProof.Rows L2 PySem.Froz Evl TS

def top (i : Nat) : Stmt := PySem.Challenge.pw_unseendials_k86_pairs_make_roundings.main.body.getD i (.Pass ⟨0, 0, 0, 0⟩)
/-- a def of the module, as the written part has it -/
structure Dat (K : PySem.W.Frag) (mg : PySem.Str → Option Value) (n : String) (st : Stmt) (ps : List PySem.Str) (f : Addr) (fd : FuncData) : Prop where
  F : Fun K n n st f fd
  b : Binds K fd ps []
  g : mg n = some (.ref f)
  k : PySem.W.keepIn K (.ref f) = true
abbrev E0 : XK := fun _ _ _ => False
theorem pas0 {X : Cx} : Passes (L2.CX X.prog X.w) X E0 := fun _ _ _ _ _ _ _ ⟨_, _, _, _, _, _, _, _, _, _, _, _, z⟩ => z.elim

/-! ### pure -/
def smallsS : PySem.Str := "abcdefghijklmnopqrst"
def capsS : PySem.Str := "ABCDEFGHIJKLMNOPQRST"
def pointsS : PySem.Str := "uvwxyz"
def inS (s : PySem.Str) (t : PySem.Str) : Bool := t.cps.toList.length == 1 && t.cps.toList.all fun c => decide (c ∈ s.cps.toList)

/-- names of the module words, and built-in names that nothing hides -/
structure Wd (mg : PySem.Str → Option Value) : Prop where
  small : ∃ t, mg "SMALL_LETTERS" = some (.str smallsS t)
  walked : ∃ t, mg "MOST_WALKED" = some (.int 8 t)
  len : mg "len" = none
  all : mg "all" = none
  range : mg "range" = none
  set : mg "set" = none
  sorted : mg "sorted" = none
  list : mg "list" = none
  tuple : mg "tuple" = none
  dict : mg "dict" = none
  zip : mg "zip" = none
  enum : mg "enumerate" = none
  rev : mg "reversed" = none
  iter : mg "iter" = none
  max : mg "max" = none
  min : mg "min" = none
/-- built-in names that the law uses -/
structure Lb (mg : PySem.Str → Option Value) : Prop where
  abs : mg "abs" = none
  int : mg "int" = none
  isi : mg "isinstance" = none
  list : mg "list" = none
  bool : mg "bool" = none

abbrev s_is_small : Stmt := top 21
def spIn (s : PySem.Str) : Sp := fun vs H Q _ => ∃ x : PySem.Str, vs = [.str x] ∧ x.length ≤ 100000 ∧ RetV (.bl (inS s x)) H Q
section
variable {P : Program} {w : World} {K : PySem.W.Frag} {mg : PySem.Str → Option Value} {base : Heap}
theorem pe_gs {X : Cx} {x s : PySem.Str} {t : Tok} {pos : Pos} (hg : Gl X x) (hm : X.mg x = some (.str s t)) (hd : (x == ("__debug__" : PySem.Str)) = false := by decide) : PE X (.Name x pos) (tC (.str s)) := pe_glob hg hm ⟨t, rfl⟩ hd
theorem pe_gi {X : Cx} {x : PySem.Str} {i : Int} {t : Tok} {pos : Pos} (hg : Gl X x) (hm : X.mg x = some (.int i t)) (hd : (x == ("__debug__" : PySem.Str)) = false := by decide) : PE X (.Name x pos) (tC (.int i)) := pe_glob hg hm ⟨t, rfl⟩ hd
theorem ev_lenS {σ : L2.St} {H : Hp} {te : TE} {x : PySem.Str} (h : Ev te σ H (.str x)) (hz : x.length ≤ 100000) : Ev (tCB (fun xs H Q => ∃ z, xs = [V.str z] ∧ z.length ≤ sizeLine ∧ Q (.int z.length) H) (tCons te tNil)) σ H (.int (x.length : Int)) := fun H1 e Q q =>
  h H1 e _ fun H2 e2 => ⟨x, rfl, sz_of hz, q H2 e2⟩
theorem one_sign {x : PySem.Str} (h : x.length = 1) : ∃ c, x = ⟨#[c]⟩ := by
  obtain ⟨a⟩ := x
  have h' : a.size = 1 := h
  match a, h' with
  | ⟨[c]⟩, _ => exact ⟨c, rfl⟩
theorem inS_len {s x : PySem.Str} (h : ¬ x.length = 1) : inS s x = false := by
  have z : (x.cps.toList.length == 1) = false := by simpa [Str.length] using h
  unfold inS
  rw [z, Bool.false_and]
theorem inS_one {s : PySem.Str} {c : Nat} : inS s ⟨#[c]⟩ = decide (c ∈ s.cps.toList) := by simp [inS]
theorem int_eq {a b : Int} : decide (V.int a = V.int b) = decide (a = b) := by
  by_cases h : a = b
  · simp [h]
  · rw [decide_eq_false h, decide_eq_false fun q => h (V.int.inj q)]
/-- len(text) == 1 and text in s -/
theorem ev_inS {σ : L2.St} {H : Hp} {te ts : TE} {x s : PySem.Str} (h : Ev te σ H (.str x)) (hs : Ev ts σ H (.str s)) (hz : x.length ≤ 100000) :
    Ev (tAndV (tOp rEq (tCB (fun xs H Q => ∃ z, xs = [V.str z] ∧ z.length ≤ sizeLine ∧ Q (.int z.length) H) (tCons te tNil)) (tC (.int 1))) (tOp rInS te ts)) σ H (.bl (inS s x)) := by
  refine ev_is (ev_andV (ev_op (ev_lenS h hz) ev_c (rv_eq rfl)) (b := inS s x) fun h1 => ?_) ?_
  · have l1 : x.length = 1 := by
      rw [int_eq] at h1
      have := of_decide_eq_true h1
      omega
    obtain ⟨c, rfl⟩ := one_sign l1
    exact ev_op h hs fun H1 e Q q => ⟨c, s, rfl, rfl, by rw [← inS_one]; exact q H1 (Ex.refl H1)⟩
  · by_cases l1 : x.length = 1
    · rw [l1]; rfl
    · rw [inS_len l1, Bool.and_false]
theorem scSmall : FnScope ["text"] ["text"] (defScope s_is_small) := ⟨rfl, rfl, rfl, by decide +kernel, rfl, by decide +kernel, by decide +kernel⟩
theorem ev_all {σ : L2.St} {H : Hp} {te : TE} {bs : List Bool} (h : EvL te σ H (bs.map V.bl)) : Ev (tCB (rAll K) (tCons te tNil)) σ H (.bl (bs.all id)) := fun H1 e Q q =>
  h H1 e _ fun p H2 _ e2 h2 => ⟨p, bs, rfl, sq_of h2, q H2 e2⟩
def spB (f : PySem.Str → Bool) : Sp := fun vs H Q _ => ∃ x : PySem.Str, vs = [.str x] ∧ x.length ≤ 1000 ∧ RetV (.bl (f x)) H Q
theorem sv_B {f : PySem.Str → Bool} {x : PySem.Str} {H : Hp} (h : x.length ≤ 1000) : SpV (spB f) [.str x] H (.bl (f x)) := fun H1 e Q q E => ⟨x, rfl, h, fun H2 e2 => q H2 e2⟩
theorem ok_is_small (W : Wd mg) {f : Addr} {fd : FuncData} (D : Dat K mg "is_small" s_is_small ["text"] f fd) : FnOk P w K mg base (L2.CX P w) 1 f fd ["text"] (spB (inS smallsS)) := by
  refine D.F.okX scSmall (fun vs H Q E h => ?_) (fun cdv A outer s H vs Q E hr h => ?_)
  · obtain ⟨x, rfl, _⟩ := h
    rfl
  · obtain ⟨x, rfl, hz, k⟩ := h
    obtain ⟨t, gs⟩ := W.small
    refine ⟨_, pss_one (ps_ret (pe_and (pe_cmpR op_eq (pe_callB call_len_str (by rfl) W.len PySem.boot_len (pa_cons (pv 0) pa_nil)) pe_int (nomark _)) (pe_one (pe_cmpR op_inS (pv 0) (pe_gs rfl gs) (by rfl))))), ?_⟩
    exact s_ret (ev_inS (ev_var rfl) ev_c (by omega)) fun H1 e => k H1 e
end
end Z
end
/-! Z2 -/
set_option linter.all false
set_option maxRecDepth 100000
set_option maxHeartbeats 4000000
noncomputable section
namespace Z
open PySem PySem.Spec PyProof.Rows L2 PySem.Froz Evl TS

/-! ### what is not walked needs no term -/
theorem pe_no {X : Cx} {e : Expr} : PE X e (fun _ _ _ => False) := ⟨fun _ _ _ _ _ _ h => h.elim⟩
theorem pt_no {X : Cx} {e : Expr} : PT X e (fun _ _ _ => False) := ⟨fun _ _ _ _ _ _ h => h.elim⟩
theorem pi_no {X : Cx} {tg e : Expr} : PI X tg e (fun _ _ _ => False) := ⟨fun _ _ _ _ _ _ h => h.elim⟩
theorem ps_no {X : Cx} {st : Stmt} : PS X st (fun _ _ _ => False) := ⟨fun _ _ _ _ _ _ h => h.elim⟩
theorem pss_no {X : Cx} {st : List Stmt} : PSs X st (fun _ _ _ => False) := ⟨fun _ _ _ _ _ _ h => h.elim⟩
abbrev tF : TS := fun _ _ _ => False


section
variable {X : Cx} {elt tg iter : Expr} {ifs : List Expr} {scope : Scope} {own : List (PySem.Str × Nat)} {pos : Pos} {wi : TI} {g : TG} {tt : TT} {te : TE}
theorem pe_l1 (hc : X.calm = true) (hN : X.N.Nodup) (hi : PI X tg iter wi) (ok : BlkOk X.N X.env.scope scope own)
    (hg : ∀ (s : Shared) (H : Hp) (C : Addr) (cl : List (PySem.Str × Addr)) (fp : List Addr), PG (X.blk s H scope (compEnvC scope cl C X.env) fp) tg g) (ht : ∀ (s : Shared) (H : Hp) (C : Addr) (cl : List (PySem.Str × Addr)) (fp : List Addr), PTs (X.blk s H scope (compEnvC scope cl C X.env) fp) ifs tt)
    (he : ∀ (s : Shared) (H : Hp) (C : Addr) (cl : List (PySem.Str × Addr)) (fp : List Addr), PE (X.blk s H scope (compEnvC scope cl C X.env) fp) elt te) (hs : ∀ x, foldedSetIterable iter X.env x = pure x := by intro _; rfl) :
    PE X (.ListComp elt [⟨tg, iter, ifs, 0⟩] scope pos) (tKc X.prog X.w .lst wi g tt te (own.map (·.2))) :=
  kc_run (kd := .lst) (xb := xnone) (Pz := fun _ => True) hc hN hi ok (fun _ _ _ z => z.elim) (fun _ _ _ _ _ _ _ _ => trivial) (fun s H C cl fp _ => hg s H C cl fp) (fun s H C cl fp _ => ht s H C cl fp) (fun s H C cl fp _ => he s H C cl fp) hs
end
/-- numbers as values -/
abbrev nv (ns : List Nat) : List V := ns.map fun (k : Nat) => V.int (k : Int)
theorem nv_get {ns : List Nat} {i : Nat} {x : V} (h : (nv ns)[i]? = some x) : i < ns.length ∧ x = .int (ns.getD i 0 : Nat) := by
  have hi := (List.getElem?_eq_some_iff.mp h).1
  rw [List.length_map] at hi
  refine ⟨hi, ?_⟩
  simp [List.getElem?_map, hi] at h
  simp [hi, h]
theorem nv_at {ns : List Nat} {k : Nat} (h : k < ns.length) : atI (nv ns) (k : Int) = some (.int (ns.getD k 0 : Nat)) := by
  rw [atI_nat]
  simp [h]
theorem nv_last {ns : List Nat} (h : 0 < ns.length) : atI (nv ns) (-1) = some (.int (ns.getD (ns.length - 1) 0 : Nat)) := by
  unfold atI ixN
  have e : ((nv ns).length : Int) = (ns.length : Int) := by simp
  rw [e, if_neg (by omega), if_pos (by omega)]
  have e2 : ((-1 : Int) + (ns.length : Int)).toNat = ns.length - 1 := by omega
  simp [e2, Nat.sub_lt h Nat.one_pos]
section
variable {P : Program} {w : World} {K : PySem.W.Frag} {mg : PySem.Str → Option Value} {base : Heap} {f f1 f2 : Addr} {fd fd1 fd2 : FuncData}
theorem ev_neg1 {σ : L2.St} {H : Hp} : Ev (tUn (rU fun i => .int (-i)) (tC (.int 1))) σ H (.int (-1)) := ev_un ev_c ru_neg
theorem ev_chain2 {σ : L2.St} {H : Hp} {ta tb tc : TE} {g g' : Int → Int → Bool} {a b c : Int} (ha : Ev ta σ H (.int a)) (hb : Ev tb σ H (.int b)) (hc : Ev tc σ H (.int c)) : Ev (tChain (rI0 fun i j => .bl (g i j)) (rI0 fun i j => .bl (g' i j)) ta tb tc) σ H (.bl (g a b && g' b c)) := fun H1 e Q q =>
  ha H1 e _ fun H2 e2 => hb H2 (e.trans e2) _ fun H3 e3 => ⟨a, b, rfl, rfl, g a b, rfl, by
    revert q
    cases g a b with
    | false => intro q; exact q H3 (e2.trans e3)
    | true => intro q; exact hc H3 ((e.trans e2).trans e3) _ fun H4 e4 => ⟨b, c, rfl, rfl, q H4 ((e2.trans e3).trans e4)⟩⟩
theorem ev_ltI {σ : L2.St} {H : Hp} {ta tb : TE} {g : Int → Int → Bool} {a b : Int} (ha : Ev ta σ H (.int a)) (hb : Ev tb σ H (.int b)) : EvT (tTest (tOp (rI0 fun i j => .bl (g i j)) ta tb)) σ H (g a b) := et_test (ev_op ha hb rv_I0)
theorem ev_eqI {σ : L2.St} {H : Hp} {te tb : TE} {i j : Int} (h : Ev te σ H (.int i)) (hb : Ev tb σ H (.int j)) : EvT (tTest (tOp rEq te tb)) σ H (decide (i = j)) := et_test (ev_is (ev_op h hb (rv_eq rfl)) (by rw [int_eq]))
theorem ev_neI {σ : L2.St} {H : Hp} {te tb : TE} {i j : Int} (h : Ev te σ H (.int i)) (hb : Ev tb σ H (.int j)) : EvT (tTest (tOp rNe te tb)) σ H (!decide (i = j)) := et_test (ev_is (ev_op h hb (rv_ne rfl)) (by rw [int_eq]))
/-- len(list), as an argument and alone -/
theorem ea_lenL {σ : L2.St} {H : Hp} {te : TE} {a : Addr} {xs : List V} {n : Int} (h : Ev te σ H (.ref a)) (hx : SqL K H a xs) (e : (xs.length : Int) = n) : EvA (tCons (tCB (rLenS K) (tCons te tNil)) tNil) σ H [.int n] := ea_cons (ev_is (ev_len h hx) (by rw [e])) ea_nil
theorem ev_lenN' {σ : L2.St} {H : Hp} {te : TE} {a : Addr} {ns : List Nat} (h : Ev te σ H (.ref a)) (hx : SqL K H a (nv ns)) : Ev (tCB (rLenS K) (tCons te tNil)) σ H (.int (ns.length : Int)) := ev_is (ev_len h hx) (by simp)
theorem ev_atN {σ : L2.St} {H : Hp} {ta tb : TE} {a : Addr} {ns : List Nat} {k : Nat} (h : Ev ta σ H (.ref a)) (hi : Ev tb σ H (.int (k : Int))) (hx : SqL K H a (nv ns)) (hk : k < ns.length) : Ev (tOp (rIxL K) ta tb) σ H (.int (ns.getD k 0 : Nat)) := ev_op h hi (rv_ixL hx (nv_at hk))

/-! ### check_steps -/
abbrev s_check_steps : Stmt := top 28
def spSteps : Sp := fun vs H Q _ => ∃ m M : Int, vs = [.int m, .int M] ∧ 1 ≤ m ∧ m ≤ M ∧ RetV .non H Q
theorem scSteps : FnScope ["many", "most"] ["many", "most"] (defScope s_check_steps) := ⟨rfl, rfl, rfl, by decide +kernel, rfl, by decide +kernel, by decide +kernel⟩
theorem ok_check_steps (D : Dat K mg "check_steps" s_check_steps ["many", "most"] f fd) : FnOk P w K mg base (L2.CX P w) 1 f fd ["many", "most"] spSteps := by
  refine D.F.okX scSteps (fun vs H Q E h => ?_) (fun cdv A outer s H vs Q E hr h => ?_)
  · obtain ⟨m, M, rfl, _⟩ := h
    rfl
  · obtain ⟨m, M, rfl, h1, h2, k⟩ := h
    refine ⟨_, pss_one (ps_if (pt_not (pt_chain op_le op_le pe_int (pv 0) (pv 1))) pss_no pss_nil), ?_⟩
    refine s_when (b := false) (et_is (et_not (et_test (ev_chain2 ev_c (ev_var rfl) (ev_var rfl)))) (by simp [h1, h2])) (fun h => nomatch h) fun _ H1 e => k H1 e
/-! ### still_table -/
abbrev s_still : Stmt := top 33
def spStill : Sp := fun vs H Q _ => ∃ n : Nat, vs = [.int (n : Int)] ∧ n ≤ 1000 ∧ RetL (nv (List.range n)) H Q
theorem scStill : FnScope ["steps"] ["steps"] (defScope s_still) := ⟨rfl, rfl, rfl, by decide +kernel, rfl, by decide +kernel, by decide +kernel⟩
theorem rgV_nat {n : Nat} : rgV 0 (n : Int) = nv (List.range n) := by
  unfold rgV
  rw [show ((n : Int) - 0).toNat = n by omega]
  refine List.map_congr_left fun k _ => ?_
  rw [Int.zero_add]
theorem el_rg {σ : L2.St} {H : Hp} {te : TE} {n : Nat} (h : Ev te σ H (.int (n : Int))) (hn : n ≤ 100000) : EvL (tLstRg (tRg1 te)) σ H (nv (List.range n)) := fun H1 e Q q => h H1 e _ fun H2 e2 =>
  ⟨n, rfl, .of_le (by omega) (by omega) (by omega) (by omega), fun p hp => q p _ (fresh_back e2 hp) (e2.trans (Ex.new hp)) (by rw [upd_same, rgV_nat])⟩
theorem ok_still (W : Wd mg) (D : Dat K mg "still_table" s_still ["steps"] f fd) : FnOk P w K mg base (L2.CX P w) 1 f fd ["steps"] spStill := by
  refine D.F.okX scStill (fun vs H Q E h => ?_) (fun cdv A outer s H vs Q E hr h => ?_)
  · obtain ⟨n, rfl, _⟩ := h
    rfl
  · obtain ⟨n, rfl, hn, k⟩ := h
    refine ⟨_, pss_one (ps_ret (pe_listRg rfl rfl W.list (prg_1 rfl W.range (pv 0)))), ?_⟩
    exact s_retL (el_rg (ev_var rfl) (by omega)) fun p H2 hp e2 h2 => k.go (Ex.refl _) hp e2 h2
/-! ### put_on -/
def compT (o i : List Nat) : List Nat := i.map fun k => o.getD k 0
abbrev s_put_on : Stmt := top 36
def spPut (K : PySem.W.Frag) : Sp := fun vs H Q _ => ∃ (a b : Addr) (o i : List Nat), vs = [.ref a, .ref b] ∧ SqL K H a (nv o) ∧ SqL K H b (nv i) ∧ i.length ≤ 1000 ∧ (∀ k ∈ i, k < o.length) ∧ RetL (nv (compT o i)) H Q
theorem scPut : FnScope ["outer", "inner", "shown"] ["outer", "inner"] (defScope s_put_on) := ⟨rfl, rfl, rfl, by decide +kernel, rfl, by decide +kernel, by decide +kernel⟩
/-- [outer[shown] for shown in inner] -/
theorem el_put {σ : L2.St} {H : Hp} {to ti : TE} {a b : Addr} {o i : List Nat} {j : Nat} {vs : List Nat} (hi : Ev ti σ H (.ref b)) (ho : ∀ (x : V) H1, Ex H H1 → Ev to ((wipe σ vs).set j (some x)) H1 (.ref a)) (ha : SqL K H a (nv o)) (hb : SqL K H b (nv i)) (hz : i.length ≤ 3000) (hk : ∀ k ∈ i, k < o.length)
    (hw : ∀ x, wipe ((wipe σ vs).set j (some x)) vs = wipe σ vs) (hv : ∀ x, ((wipe σ vs).set j (some x))[j]? = some (some x)) : EvL (tKc P w .lst (iList K ti) (gName j) tYes (tOp (rIxL K) to (tVar j)) vs) σ H (nv (compT o i)) := by
  refine (ek_kc .lst (nv (compT o i)) (ei_list hi hb) (by simp [compT]) (by rw [List.length_map]; omega) (fun _ _ => trivial) hw fun m z y H1 e hz1 hy => ?_).lst
  obtain ⟨hm, rfl⟩ := nv_get hz1
  obtain ⟨hm2, rfl⟩ := nv_get hy
  have hin : i.getD m 0 ∈ i := by
    rw [List.getD_eq_getElem?_getD, List.getElem?_eq_getElem hm]; exact List.getElem_mem _
  refine ev_is (ev_atN (ns := o) (k := i.getD m 0) (ho _ H1 e) (ev_var (hv _)) (ex_l e ha) (hk _ hin)) ?_
  simp [compT, List.getD_eq_getElem?_getD, hm]
theorem ok_put_on (D : Dat K mg "put_on" s_put_on ["outer", "inner"] f fd) : FnOk P w K mg base (L2.CX P w) 1 f fd ["outer", "inner"] (spPut K) := by
  refine D.F.okX scPut (fun vs H Q E h => ?_) (fun cdv A outer s H vs Q E hr h => ?_)
  · obtain ⟨a, b, o, i, rfl, _⟩ := h
    rfl
  · obtain ⟨a, b, o, i, rfl, ha, hb, hz, hk, k⟩ := h
    refine ⟨_, pss_one (ps_ret (pe_l1 (own := [("shown", 2)]) (g := gName 2) (te := tOp (rIxL K) (tVar 0) (tVar 2)) rfl scPut.nd (pi_list (pv 1)) (blkOk_by (N := ["outer", "inner", "shown"]) (sc := defScope s_put_on) (by decide +kernel))
        (fun _ _ _ _ _ => pg_name (i := 2) scPut.nd rfl (Or.inl rfl)) (fun _ _ _ _ _ => pts_nil) (fun _ _ _ _ _ => pe_ix ix_list (pv 0) (pv 2) (fun _ _ => rfl)))), ?_⟩
    exact s_retL (el_put (o := o) (i := i) (ev_var rfl) (fun _ _ _ => ev_var rfl) ha hb (by omega) hk (fun _ => rfl) fun _ => rfl) fun p H2 hp e2 h2 => k.go (Ex.refl _) hp e2 h2
/-! ### threshold -/
def thr (ns : List Nat) (m : Nat) : Nat := ns.findIdx fun x => decide (m ≤ x)
/-- for at, shown in enumerate(list) -/
theorem s_enum {σ : L2.St} {H H1 : Hp} {ta : TA} {tb : TS} {D : Ends} {a : Addr} {xs : List V} {i j : Nat} (h : EvA ta σ H [.ref a]) (hx : SqL K H a xs) (e1 : Ex H H1) (Pv : Nat → L2.St → Prop) (h0 : Pv 0 σ)
    (hs : ∀ k x σ' H', Ex H1 H' → xs[k]? = some x → Pv k σ' → tb { D with nx := fun σ2 H2 => Ex H1 H2 ∧ Pv (k + 1) σ2, ct := fun σ2 H2 => Ex H1 H2 ∧ Pv (k + 1) σ2, bk := D.nx } ((σ'.set i (some (.int (k : Nat)))).set j (some x)) H')
    (hd : ∀ σ' H', Ex H1 H' → Pv xs.length σ' → D.nx σ' H') : tFor (iEnum K ta) (gTup K 2 (gCons (gName i) (gCons (gName j) gNil))) tb D σ H1 := h H1 e1 _ fun H2 e2 => by
  refine ⟨a, xs, rfl, ex_l (e1.trans e2) hx, ?_⟩
  refine ⟨fun k m σ' H' => k ≤ xs.length ∧ m = xs.length - k ∧ Ex H1 H' ∧ Pv k σ', ⟨xs.length, Nat.zero_le _, by simp, e2, h0⟩, ?_⟩
  rintro k m σ' H' ⟨hk, rfl, e, p⟩
  have hl : SqL K H' a xs := ex_l (e1.trans e) hx
  cases q : xs[k]? with
  | some x =>
    have hlt := (List.getElem?_eq_some_iff.mp q).1
    refine .inr ⟨⟨xs, x, hl, q⟩, fun σ2 H2 => Ex H1 H2 ∧ Pv (k + 1) σ2, fun σ2 H2 p' => ⟨xs.length - (k + 1), by omega, hlt, rfl, p'⟩, fun y H3 hy => ?_⟩
    obtain ⟨T, z, rfl, hT, rfl, hz⟩ := hy
    have hzx := hz xs hl
    rw [q] at hzx
    cases hzx
    have new : Ex H' (upd H' T (.tup [.int (k : Nat), x])) := Ex.new hT
    exact ⟨T, _, rfl, st_of upd_same, rfl, _, _, rfl, _, _, rfl, rfl, hs k x σ' _ (e.trans new) q p⟩
  | none =>
    have z : k = xs.length := Nat.le_antisymm hk (List.getElem?_eq_none_iff.mp q)
    subst z
    exact .inl ⟨⟨xs, hl, Nat.le_refl _⟩, hd σ' H' e p⟩
end
end Z
end
/-! Z3 -/
set_option linter.all false
set_option maxRecDepth 100000
set_option maxHeartbeats 4000000
noncomputable section
namespace Z
open PySem PySem.Spec PyProof.Rows L2 PySem.Froz Evl TS

section
variable {P : Program} {w : World} {K : PySem.W.Frag} {mg : PySem.Str → Option Value} {base : Heap} {f f1 f2 : Addr} {fd fd1 fd2 : FuncData}
theorem thr_at : ∀ {ns : List Nat} {m k : Nat}, k < ns.length → (∀ j, j < k → ns.getD j 0 < m) → m ≤ ns.getD k 0 → thr ns m = k
  | [], m, k, h, _, _ => absurd h (Nat.not_lt_zero k)
  | x :: ns, m, 0, _, _, h => by
    unfold thr
    simp only [List.getD_cons_zero] at h
    simp [List.findIdx_cons, h]
  | x :: ns, m, k + 1, h, g, h2 => by
    have g0 := g 0 (by omega)
    simp only [List.getD_cons_zero] at g0
    have ih := thr_at (ns := ns) (m := m) (k := k) (by simpa using h) (fun j hj => by simpa using g (j + 1) (by omega)) (by simpa using h2)
    unfold thr at ih ⊢
    have n0 : ¬ m ≤ x := by omega
    simp [List.findIdx_cons, n0, ih]
theorem thr_end : ∀ {ns : List Nat} {m : Nat}, (∀ j, j < ns.length → ns.getD j 0 < m) → thr ns m = ns.length
  | [], m, _ => rfl
  | x :: ns, m, g => by
    have g0 := g 0 (by simp)
    simp only [List.getD_cons_zero] at g0
    have ih := thr_end (ns := ns) (m := m) (fun j hj => by simpa using g (j + 1) (by simpa using hj))
    unfold thr at ih ⊢
    have n0 : ¬ m ≤ x := by omega
    simp [List.findIdx_cons, n0, ih]
abbrev s_thr : Stmt := top 34
abbrev nThr : List PySem.Str := ["table", "least", "at", "shown"]
def spThr (K : PySem.W.Frag) : Sp := fun vs H Q _ => ∃ (a : Addr) (ns : List Nat) (m : Nat), vs = [.ref a, .int (m : Int)] ∧ SqL K H a (nv ns) ∧ ns.length ≤ 1000 ∧ RetV (.int (thr ns m : Nat)) H Q
theorem scThr : FnScope nThr ["table", "least"] (defScope s_thr) := ⟨rfl, rfl, rfl, by decide +kernel, rfl, by decide +kernel, by decide +kernel⟩
theorem ok_thr (W : Wd mg) (D : Dat K mg "threshold" s_thr ["table", "least"] f fd) : FnOk P w K mg base (L2.CX P w) 1 f fd ["table", "least"] (spThr K) := by
  refine D.F.okX scThr (fun vs H Q E h => ?_) (fun cdv A outer s H vs Q E hr h => ?_)
  · obtain ⟨a, ns, m, rfl, _⟩ := h
    rfl
  · obtain ⟨a, ns, m, rfl, ha, hz, k⟩ := h
    refine ⟨_, pss_cons (ps_for (passes_of rfl) rfl (pi_enum rfl W.enum (pa_cons (pv 0) pa_nil)) (pg_tup rfl (pgs_cons (pg_name (i := 2) scThr.nd rfl (Or.inl rfl)) (pgs_cons (pg_name (i := 3) scThr.nd rfl (Or.inl rfl)) pgs_nil)))
        (pss_one (ps_if (pt_cmpR op_ge (pv 3) (pv 1) (nomark _)) (pss_one (ps_ret (pv 2))) pss_nil)))
      (pss_one (ps_ret (pe_callB call_len_seq (by rfl) W.len PySem.boot_len (pa_cons (pv 0) pa_nil)))), ?_⟩
    refine s_enum (i := 2) (j := 3) (H := H) (K := K) (D := { (_ : Ends) with nx := _ }) (ea_cons (ev_var rfl) ea_nil) ha (Ex.refl H) (fun i σ' => (∃ u v, σ' = [some (.ref a), some (.int (m : Int)), u, v]) ∧ ∀ j, j < i → ns.getD j 0 < m) ⟨⟨_, _, rfl⟩, fun j hj => absurd hj (Nat.not_lt_zero j)⟩ ?_ ?_
    · rintro i x σ' H' e hx ⟨⟨u, v, rfl⟩, g⟩
      obtain ⟨hi, rfl⟩ := nv_get hx
      refine s_when (ev_ltI (g := fun i j => decide (i ≥ j)) (ev_var rfl) (ev_var rfl)) (fun hb H2 e2 => ?_) fun hb H2 e2 => ?_
      · have hge : m ≤ ns.getD i 0 := by have := of_decide_eq_true hb; omega
        refine s_ret (ev_var rfl) fun H3 e3 => ?_
        rw [← thr_at hi g hge]
        exact k H3 ((e.trans e2).trans e3)
      · have hlt : ns.getD i 0 < m := by have := of_decide_eq_false hb; omega
        exact ⟨e.trans e2, ⟨_, _, rfl⟩, fun j hj => (Nat.lt_succ_iff_lt_or_eq.mp hj).elim (g j) fun z => z ▸ hlt⟩
    · rintro σ' H' e ⟨⟨u, v, rfl⟩, g⟩
      rw [List.length_map] at g
      refine s_ret (ev_lenN' (ns := ns) (ev_var rfl) (ex_l e ha)) fun H3 e3 => ?_
      rw [← thr_end g]
      exact k H3 (e.trans e3)
/-! ### back_table -/
def backT (ns : List Nat) : List Nat := (List.range ns.length).map fun c => thr ns (c + 1) - 1
abbrev s_back : Stmt := top 35
def spBack (K : PySem.W.Frag) : Sp := fun vs H Q _ => ∃ (a : Addr) (ns : List Nat), vs = [.ref a] ∧ SqL K H a (nv ns) ∧ ns.length ≤ 1000 ∧ 0 < ns.length ∧ ns.getD 0 0 = 0 ∧ RetL (nv (backT ns)) H Q
theorem scBack : FnScope ["table", "at"] ["table"] (defScope s_back) := ⟨rfl, rfl, rfl, by decide +kernel, rfl, by decide +kernel, by decide +kernel⟩
theorem thr_pos {ns : List Nat} {c : Nat} (h : 0 < ns.length) (h0 : ns.getD 0 0 = 0) : 1 ≤ thr ns (c + 1) := by
  cases ns with
  | nil => exact absurd h (Nat.lt_irrefl 0)
  | cons x ns =>
    simp only [List.getD_cons_zero] at h0
    subst h0
    unfold thr
    have n0 : ¬ c + 1 ≤ 0 := by omega
    simp [List.findIdx_cons, n0]
theorem sv_thr {a : Addr} {ns : List Nat} {m : Nat} {H : Hp} (ha : SqL K H a (nv ns)) (hz : ns.length ≤ 1000) : SpV (spThr K) [.ref a, .int (m : Int)] H (.int (thr ns m : Nat)) := fun H1 e Q q E => ⟨a, ns, m, rfl, ex_l e ha, hz, fun H2 e2 => q H2 e2⟩
theorem ok_back (W : Wd mg) (D : Dat K mg "back_table" s_back ["table"] f fd) (D1 : Dat K mg "threshold" s_thr ["table", "least"] f1 fd1) (G1 : FnOk P w K mg base (L2.CX P w) 1 f1 fd1 ["table", "least"] (spThr K)) : FnOk P w K mg base (L2.CX P w) 2 f fd ["table"] (spBack K) := by
  refine D.F.okX scBack (fun vs H Q E h => ?_) (fun cdv A outer s H vs Q E hr h => ?_)
  · obtain ⟨a, ns, rfl, _⟩ := h
    rfl
  · obtain ⟨a, ns, rfl, ha, hz, h0, hg, k⟩ := h
    refine ⟨_, pss_cons (ps_if (pt_cmpR op_ne (pe_ix ix_list (pv 0) pe_int (fun _ _ => rfl)) pe_int (nomark _)) pss_no pss_nil)
      (pss_one (ps_ret (pe_l1 (own := [("at", 1)]) (g := gName 1) (te := tOp (rI0 fun i j => .int (i - j)) (tCall (spThr K) [] E0 (tCons (tVar 0) (tCons (tOp (rI0 fun i j => .int (i + j)) (tVar 1) (tC (.int 1))) tNil))) (tC (.int 1))) rfl scBack.nd (pi_range1 rfl W.range (pa_cons (pe_callB call_len_seq (by rfl) W.len PySem.boot_len (pa_cons (pv 0) pa_nil)) pa_nil)) (blkOk_by (N := ["table", "at"]) (sc := defScope s_back) (by decide +kernel))
        (fun _ _ _ _ _ => pg_name (i := 1) scBack.nd rfl (Or.inl rfl)) (fun _ _ _ _ _ => pts_nil) (fun _ _ _ _ _ => pe_op op_sub (pe_call G1 hr rfl D1.g D1.k D1.b .nil pas0 (pa_cons (pv 0) (pa_cons (pe_op op_add (pv 1) pe_int) pa_nil))) pe_int)))), ?_⟩
    refine q_when (b := false) (et_is (ev_neI (ev_atN (ns := ns) (k := 0) (ev_var rfl) ev_c ha h0) ev_c) (by rw [hg]; rfl)) (fun h => nomatch h) fun _ H1 e => ?_
    have ha1 := ex_l e ha
    refine s_retL (xs := nv (backT ns)) ?_ fun p H2 hp e2 h2 => k.go e hp e2 h2
    refine (ek_kc .lst (nv (backT ns)) (ei_rng1 (ea_lenL (n := (ns.length : Int)) (ev_var rfl) ha1 (by simp)) (by omega) (by omega)) (by simp [backT, nums]) (by rw [nums_len]; omega) (fun _ _ => trivial) (fun _ => rfl) fun i z y H3 e3 hz1 hy => ?_).lst
    obtain ⟨hi, rfl⟩ := nums_at hz1
    obtain ⟨hi2, rfl⟩ := nv_get hy
    have hin : i < ns.length := by omega
    refine ev_is (ev_op (ev_call (z := .int (thr ns (i + 1) : Nat)) (vs := [.ref a, .int ((i + 1 : Nat) : Int)]) (ea_cons (ev_var rfl) (ea_cons (ev_is (ev_op (ev_var rfl) ev_c rv_I0) (by simp)) ea_nil)) (sv_thr (ex_l e3 ha1) hz)) ev_c rv_I0) ?_
    have hp := thr_pos (c := i) h0 hg
    have eb : (backT ns).getD i 0 = thr ns (i + 1) - 1 := by simp [backT, List.getD_eq_getElem?_getD, hin]
    rw [eb]
    congr 1
    omega
/-! ### rising -/
structure Ris (ns : List Nat) : Prop where
  pos : 0 < ns.length
  up : ∀ i, i + 1 < ns.length → ns.getD i 0 ≤ ns.getD (i + 1) 0
  lt : ∀ i, i < ns.length → ns.getD i 0 < ns.length
abbrev s_rising : Stmt := top 32
abbrev nRis : List PySem.Str := ["table", "many", "at"]
def spRis (K : PySem.W.Frag) : Sp := fun vs H Q _ => ∃ (a : Addr) (ns : List Nat), vs = [.ref a] ∧ SqL K H a (nv ns) ∧ ns.length ≤ 1000 ∧ Ris ns ∧ RetV (.bl true) H Q
theorem scRis : FnScope nRis ["table"] (defScope s_rising) := ⟨rfl, rfl, rfl, by decide +kernel, rfl, by decide +kernel, by decide +kernel⟩
theorem ok_rising (W : Wd mg) (D : Dat K mg "rising" s_rising ["table"] f fd) : FnOk P w K mg base (L2.CX P w) 1 f fd ["table"] (spRis K) := by
  refine D.F.okX scRis (fun vs H Q E h => ?_) (fun cdv A outer s H vs Q E hr h => ?_)
  · obtain ⟨a, ns, rfl, _⟩ := h
    rfl
  · obtain ⟨a, ns, rfl, ha, hz, R, k⟩ := h
    refine ⟨_, pss_cons (ps_set (i := 1) scRis.nd rfl (Or.inl rfl) (pe_callB call_len_seq (by rfl) W.len PySem.boot_len (pa_cons (pv 0) pa_nil)))
      (pss_cons (ps_if (PW.pt (pw_or (pt_cmpR op_eq (pv 1) pe_int (nomark _)) (pw_or (pt_cmpR op_lt (pe_ix ix_list (pv 0) pe_int (fun _ _ => rfl)) pe_int (nomark _)) (pw_or1 (pt_cmpR op_ge (pe_ix ix_list (pv 0) (pe_un un_neg pe_int) (fun _ _ => rfl)) (pv 1) (nomark _)))))) pss_no pss_nil)
      (pss_one (ps_ret (pe_callB (cr_all rfl) (by rfl) W.all boot_all (pa_cons (pe_l1 (own := [("at", 2)]) (g := gName 2) (te := tOp (rI0 fun i j => .bl (decide (i ≤ j))) (tOp (rIxL K) (tVar 0) (tVar 2)) (tOp (rIxL K) (tVar 0) (tOp (rI0 fun i j => .int (i + j)) (tVar 2) (tC (.int 1))))) rfl scRis.nd (pi_range1 rfl W.range (pa_cons (pe_op op_sub (pv 1) pe_int) pa_nil)) (blkOk_by (N := nRis) (sc := defScope s_rising) (by decide +kernel))
        (fun _ _ _ _ _ => pg_name (i := 2) scRis.nd rfl (Or.inl rfl)) (fun _ _ _ _ _ => pts_nil) (fun _ _ _ _ _ => pe_cmpR op_le (pe_ix ix_list (pv 0) (pv 2) (fun _ _ => rfl)) (pe_ix ix_list (pv 0) (pe_op op_add (pv 2) pe_int) (fun _ _ => rfl)) (nomark _))) pa_nil))))), ?_⟩
    have hp := R.pos
    refine q_asg (ev_lenN' (ns := ns) (ev_var rfl) ha) fun H1 e1 => ?_
    have ha1 := ex_l e1 ha
    refine q_when (b := false) (et_is (et_or (ev_eqI (ev_var rfl) ev_c) fun _ => et_or (ev_ltI (g := fun i j => decide (i < j)) (ev_atN (ns := ns) (k := 0) (ev_var rfl) ev_c ha1 hp) ev_c) fun _ => ev_ltI (g := fun i j => decide (i ≥ j)) (ev_op (ev_var rfl) ev_neg1 (rv_ixL ha1 (nv_last hp))) (ev_var rfl)) ?_) (fun h => nomatch h) fun _ H2 e2 => ?_
    · have := R.lt (ns.length - 1) (by omega)
      have h1 : ¬ (ns.length : Int) = 0 := by omega
      have h2 : ¬ ((ns.getD 0 0 : Nat) : Int) < 0 := by omega
      have h3 : ¬ ((ns.getD (ns.length - 1) 0 : Nat) : Int) ≥ (ns.length : Int) := by omega
      rw [decide_eq_false h1, decide_eq_false h2, decide_eq_false h3]; rfl
    · have ha2 := ex_l e2 ha1
      refine s_ret (v := .bl true) ?_ fun H3 e3 => k H3 ((e1.trans e2).trans e3)
      refine ev_is (ev_all (bs := (List.range (ns.length - 1)).map fun _ => true) ?_) (by simp)
      rw [List.map_map]
      refine (ek_kc .lst _ (ei_rng1 (n := ((ns.length - 1 : Nat) : Int)) (ea_cons (ev_is (ev_op (ev_var rfl) ev_c rv_I0) (by congr 1; omega)) ea_nil) (by omega) (by omega)) (by simp [nums]) (by rw [nums_len]; omega) (fun _ _ => trivial) (fun _ => rfl) fun i z y H3 e3 hz1 hy => ?_).lst
      obtain ⟨hi, rfl⟩ := nums_at hz1
      have hy' : y = .bl true := by
        rw [List.getElem?_map] at hy
        cases q : (List.range (ns.length - 1))[i]? with
        | none => rw [q] at hy; cases hy
        | some c => rw [q] at hy; cases hy; rfl
      subst hy'
      have h1 : i + 1 < ns.length := by omega
      have ha3 := ex_l e3 ha2
      refine ev_is (ev_op (ev_atN (ns := ns) (k := i) (ev_var rfl) (ev_is (ev_var rfl) (by simp)) ha3 (by omega)) (ev_atN (ns := ns) (k := i + 1) (ev_var rfl) (ev_is (ev_op (ev_var rfl) ev_c rv_I0) (by simp)) ha3 h1) rv_I0) ?_
      have := R.up i h1
      congr 1
      exact decide_eq_true (by omega)
end
end Z
end
/-! Z4 -/
set_option linter.all false
set_option maxRecDepth 100000
set_option maxHeartbeats 4000000
noncomputable section
namespace Z
open PySem PySem.Spec PyProof.Rows L2 PySem.Froz Evl TS GenW

/-! ### all rising tables, one behind another -/
def lastUp (n : Nat) (T : List Nat) : Nat := ((List.range n).filter fun p => decide (T.getD p 0 < n - 1)).getLastD 0
def nextT (n : Nat) (T : List Nat) : List Nat := T.take (lastUp n T) ++ List.replicate (n - lastUp n T) (T.getD (lastUp n T) 0 + 1)
/-- the rows with one step more -/
def longer (n : Nat) (rows : List (List Nat)) : List (List Nat) := rows.flatMap fun r => (List.range (n - r.getLastD 0)).map fun j => r ++ [r.getLastD 0 + j]
def risesK (n : Nat) : Nat → List (List Nat)
  | 0 => [[]]
  | k + 1 => longer n (risesK n k)
def rises (n : Nat) : List (List Nat) := risesK n n
def goodWalk (n : Nat) : Bool :=
  let W := rises n
  W.head? == some (List.replicate n 0) && W.length ≤ 200 && (W.all fun t => t.length == n) && (List.range W.length).all fun i =>
    if i + 1 < W.length then ((W.getD i []).getD 0 0 < n - 1) && ((lastUp n (W.getD i [])) < n) && (W.getD (i + 1) [] == nextT n (W.getD i [])) && ((W.getD i []).getD (lastUp n (W.getD i [])) 0 < n - 1) else !((W.getD i []).getD 0 0 < n - 1)
theorem walk_good : ∀ n, 1 ≤ n → n ≤ 5 → goodWalk n = true := fun n h1 h5 => by
  match n, h1, h5 with
  | 1, _, _ => decide +kernel
  | 2, _, _ => decide +kernel
  | 3, _, _ => decide +kernel
  | 4, _, _ => decide +kernel
  | 5, _, _ => decide +kernel
structure Walk (n : Nat) : Prop where
  head : (rises n).getD 0 [] = List.replicate n 0
  pos : 0 < (rises n).length
  small : (rises n).length ≤ 200
  len : ∀ i, i < (rises n).length → ((rises n).getD i []).length = n
  go : ∀ i, i + 1 < (rises n).length → ((rises n).getD i []).getD 0 0 < n - 1 ∧ lastUp n ((rises n).getD i []) < n ∧ (rises n).getD (i + 1) [] = nextT n ((rises n).getD i []) ∧ ((rises n).getD i []).getD (lastUp n ((rises n).getD i [])) 0 < n - 1
  stop : ∀ i, i + 1 = (rises n).length → ¬ ((rises n).getD i []).getD 0 0 < n - 1
theorem getD_mem {α : Type} {d : α} {xs : List α} {i : Nat} (h : i < xs.length) : xs.getD i d ∈ xs := by
  rw [List.getD_eq_getElem?_getD, List.getElem?_eq_getElem h]; exact List.getElem_mem _
theorem walk_of {n : Nat} (h1 : 1 ≤ n) (h5 : n ≤ 5) : Walk n := by
  have g := walk_good n h1 h5
  unfold goodWalk at g
  simp only [Bool.and_eq_true, List.all_eq_true, beq_iff_eq, decide_eq_true_eq] at g
  obtain ⟨⟨⟨g1, g2⟩, g3⟩, g4⟩ := g
  have gp : 0 < (rises n).length := by
    cases h : rises n with
    | nil => rw [h] at g1; cases g1
    | cons a b => simp
  refine ⟨?_, gp, g2, fun i hi => g3 _ (getD_mem hi), fun i hi => ?_, fun i hi => ?_⟩
  · cases h : rises n with
    | nil => rw [h] at gp; exact absurd gp (Nat.lt_irrefl 0)
    | cons a b => rw [h] at g1; simpa using g1
  · have z := g4 i (List.mem_range.mpr (by omega))
    rw [if_pos hi] at z
    simp only [Bool.and_eq_true, beq_iff_eq, decide_eq_true_eq] at z
    exact ⟨z.1.1.1, z.1.1.2, z.1.2, z.2⟩
  · have z := g4 i (List.mem_range.mpr (by omega))
    rw [if_neg (by omega)] at z
    simpa using z
/-- what the list's items stand for -/
def Rows (H : Hp) (ys : List V) (W : List (List Nat)) : Prop := ys.length = W.length ∧ ∀ i, i < W.length → ∃ p, ys[i]? = some (.ref p) ∧ H p = some (.lst (nv (W.getD i [])))
theorem Rows.mono {H H' : Hp} {ys : List V} {W : List (List Nat)} (h : Rows H ys W) (e : Ex H H') : Rows H' ys W := ⟨h.1, fun i hi => let ⟨p, a, b⟩ := h.2 i hi; ⟨p, a, e _ _ b⟩⟩
theorem Rows.nil {H : Hp} : Rows H [] [] := ⟨rfl, fun i hi => absurd hi (Nat.not_lt_zero i)⟩
theorem Rows.snoc {H : Hp} {ys : List V} {W : List (List Nat)} {p : Addr} {T : List Nat} (h : Rows H ys W) (hp : H p = some (.lst (nv T))) : Rows H (ys ++ [.ref p]) (W ++ [T]) := by
  refine ⟨by simp [h.1], fun i hi => ?_⟩
  rw [List.length_append, List.length_singleton] at hi
  by_cases hl : i < W.length
  · obtain ⟨q, a, b⟩ := h.2 i hl
    refine ⟨q, by rw [List.getElem?_append_left (by rw [h.1]; exact hl)]; exact a, ?_⟩
    rw [List.getD_eq_getElem?_getD, List.getElem?_append_left hl, ← List.getD_eq_getElem?_getD]; exact b
  · have e : i = W.length := by omega
    subst e
    refine ⟨p, by rw [List.getElem?_append_right (by rw [h.1]; exact Nat.le_refl _), h.1]; simp, ?_⟩
    rw [List.getD_eq_getElem?_getD, List.getElem?_append_right (Nat.le_refl _)]
    simpa using hp
theorem take_next {W : List (List Nat)} {i : Nat} (h : i < W.length) : W.take (i + 1) = W.take i ++ [W.getD i []] := by
  rw [List.take_add_one, List.getElem?_eq_getElem h, List.getD_eq_getElem?_getD, List.getElem?_eq_getElem h]; rfl

section
variable {σ : L2.St} {H : Hp} {ta tb te : TE} {K : PySem.W.Frag} {P : Program} {w : World}
theorem el_cat {xs ys : List V} (ha : EvL ta σ H xs) (hb : EvL tb σ H ys) (hz : xs.length + ys.length ≤ 100000) : EvL (tOp rCat ta tb) σ H (xs ++ ys) := fun H1 e Q q => ha H1 e _ fun p H2 hp e2 h2 => hb H2 (e.trans e2) _ fun r H3 hr e3 h3 =>
  ⟨p, r, xs, ys, rfl, rfl, e3 p _ h2, h3, sz_of hz, fun l hl => q l _ (fresh_back (e2.trans e3) hl) ((e2.trans e3).trans (Ex.new hl)) upd_same⟩
theorem flat_rep (v : V) : ∀ k, (List.replicate k [v]).flatten = List.replicate k v
  | 0 => rfl
  | k + 1 => by rw [List.replicate_succ, List.flatten_cons, flat_rep v k]; rfl
theorem el_rep1 {v : V} {k : Nat} (ha : EvL ta σ H [v]) (hb : Ev tb σ H (.int (k : Int))) (hz : k ≤ 100000) : EvL (tOp rRep ta tb) σ H (List.replicate k v) := fun H1 e Q q => ha H1 e _ fun p H2 hp e2 h2 => hb H2 (e.trans e2) _ fun H3 e3 =>
  ⟨p, k, [v], rfl, rfl, e3 p _ h2, by omega, by omega, by rw [Int.toNat_natCast, List.length_singleton, Nat.one_mul]; exact sz_of hz, fun l hl => q l _ (fresh_back (e2.trans e3) hl) ((e2.trans e3).trans (Ex.new hl)) (by
    rw [upd_same, Int.toNat_natCast, flat_rep])⟩
/-- max of a new list of numbers of which m is the greatest -/
theorem ev_maxN {ns : List Nat} {m : Nat} (ha : EvL ta σ H (nv ns)) (hm : m ∈ ns) (hg : ∀ y ∈ ns, y ≤ m) : Ev (tCB (rMax K) (tCons ta tNil)) σ H (.int (m : Int)) := fun H1 e Q q => ha H1 e _ fun p H2 hp e2 h2 =>
  ⟨p, ns.map fun (k : Nat) => (k : Int), rfl, by rw [List.map_map]; exact sq_of h2, by rw [List.length_map]; exact List.length_pos_of_mem hm, fun M hM hMg => by
    obtain ⟨k, hk, rfl⟩ := List.mem_map.mp hM
    have h1 := hMg _ (List.mem_map.mpr ⟨m, hm, rfl⟩)
    have h2' := hg k hk
    have e3 : k = m := by omega
    rw [e3]
    exact q H2 e2⟩
theorem el_litN {te : TE} {v : V} (h : Ev te σ H v) : EvL (tLst (tCons te tNil)) σ H [v] := el_lst (ea_cons h ea_nil) (by simp)
theorem cutV_pre {xs : List V} {k : Nat} (h : k ≤ xs.length) : cutV xs none (some (k : Int)) = xs.take k := by
  unfold cutV
  have s0 : HT.sIx xs.length 0 none = 0 := rfl
  have s1 : HT.sIx xs.length xs.length (some (k : Int)) = k := by
    unfold HT.sIx
    simp only
    rw [if_neg (by omega)]
    omega
  rw [s0, s1]
  simp
end
abbrev s_walk : Stmt := top 39
abbrev nWalk : List PySem.Str := ["steps", "table", "at", "place"]
def spWalk : SpG := fun vs H Q _ => ∃ n : Nat, vs = [.int (n : Int)] ∧ 1 ≤ n ∧ n ≤ 5 ∧ ∀ ys H', Ex H H' → Rows H' ys (rises n) → Q ys H'
theorem scWalk : GScope nWalk ["steps"] (defScope s_walk) := ⟨rfl, rfl, rfl, by decide +kernel, rfl, by decide +kernel, by decide +kernel⟩
theorem nv_take (T : List Nat) (k : Nat) : nv (T.take k) = (nv T).take k := by simp [nv, List.map_take]
theorem nv_rep (k x : Nat) : nv (List.replicate k x) = List.replicate k (V.int (x : Int)) := by simp [nv]
theorem nv_app (a b : List Nat) : nv (a ++ b) = nv a ++ nv b := List.map_append
theorem lastUp_max {n : Nat} {T : List Nat} : ∀ y ∈ (List.range n).filter (fun p => decide (T.getD p 0 < n - 1)), y ≤ lastUp n T := fun y hy => by
  unfold lastUp
  have sorted : ((List.range n).filter (fun p => decide (T.getD p 0 < n - 1))).Pairwise (· ≤ ·) := (List.pairwise_le_range).filter _
  generalize (List.range n).filter (fun p => decide (T.getD p 0 < n - 1)) = l at sorted hy
  induction l generalizing y with
  | nil => cases hy
  | cons a l ih =>
    cases l with
    | nil => simp at hy; subst hy; simp
    | cons b l =>
      rw [List.pairwise_cons] at sorted
      have e : (a :: b :: l).getLastD 0 = (b :: l).getLastD 0 := by simp [List.getLastD]
      rw [e]
      rcases List.mem_cons.mp hy with rfl | hy
      · have hb : b ∈ b :: l := List.mem_cons_self
        exact Nat.le_trans (sorted.1 b hb) (ih b sorted.2 hb)
      · exact ih y sorted.2 hy
theorem lastUp_mem {n : Nat} {T : List Nat} (h0 : 0 < n) (h : T.getD 0 0 < n - 1) : lastUp n T ∈ (List.range n).filter (fun p => decide (T.getD p 0 < n - 1)) := by
  have m0 : 0 ∈ (List.range n).filter (fun p => decide (T.getD p 0 < n - 1)) := List.mem_filter.mpr ⟨List.mem_range.mpr h0, decide_eq_true h⟩
  unfold lastUp
  generalize (List.range n).filter (fun p => decide (T.getD p 0 < n - 1)) = l at m0
  cases l with
  | nil => cases m0
  | cons a l => rw [List.getLastD_cons]; cases l with
    | nil => simp
    | cons b l => simp [List.getLastD]
section
variable {P : Program} {w : World} {K : PySem.W.Frag} {mg : PySem.Str → Option Value} {base : Heap} {f f1 f2 : Addr} {fd fd1 fd2 : FuncData}
/-- a generator def -/
theorem gfn_fun {x qual : PySem.Str} {st : Stmt} {N ps : List PySem.Str} {k : Nat} {sp : SpG} (F : Fun K x qual st f fd) (S : GScope N ps (defScope st)) (len : ∀ vs H Q E, sp vs H Q E → vs.length = ps.length)
    (hbody : ∀ (cdv : Value) (A : Around) (outer : List Env) (s : Shared) (H : Hp) (vs : List V) (Q : List V → Hp → Prop) (E : XK) (pn : List (Addr × Obj)), Room k (A.deeper (envOfC qual (defScope st) s.heap.objs.size f cdv)) → sp vs H Q E →
      ∃ t, GSs (gcxOf P w K mg base N qual (defScope st) f cdv A outer s H E pn) (defBody st) t ∧ t { nx := fun ys _ H' => Q ys H', rt := fun ys v H' => v = .non ∧ Q ys H' } [] (start N vs) H) : GFn P w K mg base (k + 1) f fd ps sp := by
  obtain ⟨oc, od, kV, doc, pm, an, cdv, ct, osl, rfl, lk, hcd⟩ := F.ex
  exact gfn_of lk hcd S len fun A outer s H vs Q E pn hr hsp => hbody cdv A outer s H vs Q E pn hr hsp
theorem gf1_fun {x qual : PySem.Str} {st : Stmt} {N ps : List PySem.Str} {k : Nat} {sp : SpF} (F : Fun K x qual st f fd) (S : GScope N ps (defScope st)) (len : ∀ vs H D, sp vs H D → vs.length = ps.length) (hi : ∀ l cdv, interactive (envOfC qual (defScope st) l f cdv) = false)
    (hbody : ∀ (cdv : Value) (A : Around) (outer : List Env) (s : Shared) (H : Hp) (vs : List V) (D : V → Hp → Prop), Room k (A.deeper (envOfC qual (defScope st) s.heap.objs.size f cdv)) → sp vs H D →
      ∃ t, First (gcxOf P w K mg base N qual (defScope st) f cdv A outer s H EN []) (defBody st) t ∧ t (start N vs) H D) : GF1 P w K mg base (k + 1) f fd ps sp := by
  obtain ⟨oc, od, kV, doc, pm, an, cdv, ct, osl, rfl, lk, hcd⟩ := F.ex
  exact gf1_of lk hcd S len (fun l => hi l cdv) fun A outer s H vs D hr hsp => hbody cdv A outer s H vs D hr hsp
theorem sv_steps {m M : Int} {H : Hp} (h1 : 1 ≤ m) (h2 : m ≤ M) : SpV spSteps [.int m, .int M] H .non := fun H1 e Q q E => ⟨m, M, rfl, h1, h2, fun H2 e2 => q H2 e2⟩
/-- the first item on eight steps -/
def spWalk8 : SpF := fun vs H D => vs = [.int 8] ∧ ∀ p H', Ex H H' → H' p = some (.lst (nv (List.replicate 8 0))) → D (.ref p) H'
theorem ok_walk8 (W : Wd mg) (D : Dat K mg "walk_tables" s_walk ["steps"] f fd) (D1 : Dat K mg "check_steps" s_check_steps ["many", "most"] f1 fd1) (G1 : FnOk P w K mg base (L2.CX P w) 1 f1 fd1 ["many", "most"] spSteps) : GF1 P w K mg base 2 f fd ["steps"] spWalk8 := by
  refine gf1_fun D.F scWalk (fun vs H D h => by obtain ⟨rfl, _⟩ := h; rfl) (fun _ _ => rfl) fun cdv A outer s H vs Dq hr h => ?_
  obtain ⟨rfl, k⟩ := h
  obtain ⟨tw, gw⟩ := W.walked
  refine ⟨_, first_cons (ps_expr (pe_call G1 hr rfl D1.g D1.k D1.b .nil pas0 (pa_cons (pv 0) (pa_cons (pe_gi rfl gw) pa_nil))))
    (first_cons (ps_set (i := 1) scWalk.nd rfl (Or.inr rfl) (pe_op op_rep (pe_lst (pa_cons pe_int pa_nil)) (pv 0)))
    (first_yield (pe_callTy call_list_of rfl W.list PyProof.Rows.boot_list (pa_cons (pv 1) pa_nil)))), ?_⟩
  refine s_drop (ev_call (z := .non) (ea_cons (ev_var rfl) (ea_cons ev_c ea_nil)) (sv_steps (by decide) (by decide))) fun H1 e1 => ?_
  refine s_asgL (el_rep1 (k := 8) (el_litN ev_c) (ev_var rfl) (by decide)) fun p H2 hp e2 h2 => ?_
  refine el_list (K := K) (ev_var rfl) (sq_of h2) H2 (Ex.refl _) _ fun q H3 hq e3 h3 => k q H3 ((e1.trans e2).trans e3) ?_
  rw [h3, nv_rep]; rfl
theorem ok_walk (W : Wd mg) (D : Dat K mg "walk_tables" s_walk ["steps"] f fd) (D1 : Dat K mg "check_steps" s_check_steps ["many", "most"] f1 fd1) (G1 : FnOk P w K mg base (L2.CX P w) 1 f1 fd1 ["many", "most"] spSteps) : GFn P w K mg base 2 f fd ["steps"] spWalk := by
  refine gfn_fun D.F scWalk (fun vs H Q E h => by obtain ⟨n, rfl, _⟩ := h; rfl) fun cdv A outer s H vs Q E pn hr h => ?_
  obtain ⟨n, rfl, h1, h5, k⟩ := h
  obtain ⟨tw, gw⟩ := W.walked
  refine ⟨_, gss_cons (gs_ps (ps_expr (pe_call G1 hr rfl D1.g D1.k D1.b .nil pas0 (pa_cons (pv 0) (pa_cons (pe_gi rfl gw) pa_nil)))))
    (gss_cons (gs_ps (ps_set (i := 1) scWalk.nd rfl (Or.inr rfl) (pe_op op_rep (pe_lst (pa_cons pe_int pa_nil)) (pv 0))))
    (gss_cons (gs_yield (pe_callTy call_list_of rfl W.list PyProof.Rows.boot_list (pa_cons (pv 1) pa_nil)))
    (gss_cons (gs_while owns_gcx (pt_cmpR op_lt (pe_ix ix_list (pv 1) pe_int (fun _ _ => rfl)) (pe_op op_sub (pv 0) pe_int) (nomark _))
      (gss_cons (gs_ps (ps_set (i := 2) scWalk.nd rfl (Or.inl rfl) (pe_callB (cr_max rfl) (by rfl) W.max (by decide +kernel) (pa_cons (pe_l1 (own := [("place", 3)]) (g := gName 3) (tt := tTest (tOp (rI0 fun i j => .bl (decide (i < j))) (tOp (rIxL K) (tVar 1) (tVar 3)) (tOp (rI0 fun i j => .int (i - j)) (tVar 0) (tC (.int 1))))) (te := tVar 3) rfl scWalk.nd (pi_range1 rfl W.range (pa_cons (pv 0) pa_nil)) (blkOk_by (N := nWalk) (sc := defScope s_walk) (by decide +kernel))
        (fun _ _ _ _ _ => pg_name (i := 3) scWalk.nd rfl (Or.inl rfl)) (fun _ _ _ _ _ => pts_one (pt_cmpR op_lt (pe_ix ix_list (pv 1) (pv 3) (fun _ _ => rfl)) (pe_op op_sub (pv 0) pe_int) (nomark _))) (fun _ _ _ _ _ => pv 3)) pa_nil))))
      (gss_cons (gs_ps (ps_set (i := 1) scWalk.nd rfl (Or.inr rfl) (pe_op op_cat (pe_slice sl_list (pv 1) po_none (po_some (pv 2))) (pe_op op_rep (pe_lst (pa_cons (pe_op op_add (pe_ix ix_list (pv 1) (pv 2) (fun _ _ => rfl)) pe_int) pa_nil)) (pe_op op_sub (pv 0) (pv 2))))))
      (gss_cons (gs_yield (pe_callTy call_list_of rfl W.list PyProof.Rows.boot_list (pa_cons (pv 1) pa_nil))) gss_nil))))
    gss_nil))), ?_⟩
  have WN := walk_of h1 h5
  refine s_drop (ev_call (z := .non) (ea_cons (ev_var rfl) (ea_cons ev_c ea_nil)) (sv_steps (by omega) (by omega))) fun H1 e1 => ?_
  refine s_asgL (el_rep1 (k := n) (el_litN ev_c) (ev_var rfl) (by omega)) fun p H2 hp e2 h2 => ?_
  refine ⟨by rw [sizeLine_eq]; decide, ?_⟩
  refine el_list (K := K) (ev_var rfl) (sq_of h2) H2 (Ex.refl _) _ fun q H3 hq e3 h3 => ?_
  have hR0 : Rows H3 ([] ++ [V.ref q]) ((rises n).take (0 + 1)) := by
    rw [take_next WN.pos]
    refine Rows.nil.snoc ?_
    rw [h3, WN.head, nv_rep]; rfl
  have hT0 : H3 p = some (.lst (nv ((rises n).getD 0 []))) := by
    rw [e3 _ _ h2, WN.head, nv_rep]; rfl
  refine ⟨fun m ys σ' H' => ∃ (i : Nat) (t : Addr) (u v : Option V), i < (rises n).length ∧ m = (rises n).length - i ∧ σ' = [some (.int (n : Int)), some (.ref t), u, v] ∧ Rows H' ys ((rises n).take (i + 1)) ∧ H' t = some (.lst (nv ((rises n).getD i []))) ∧ Ex H H', ⟨_, 0, p, none, none, WN.pos, rfl, rfl, hR0, hT0, (e1.trans e2).trans e3⟩, ?_⟩
  rintro m ys σ' H' ⟨i, t, u, v, hi, rfl, rfl, hR, hT, eH⟩
  have hlen := WN.len i hi
  have hsub : ∀ {σ : L2.St} {H : Hp} {x y : TE} {c : Nat}, 1 ≤ c → Ev x σ H (.int (c : Int)) → Ev y σ H (.int 1) → Ev (tOp (rI0 fun i j => .int (i - j)) x y) σ H (.int ((c - 1 : Nat) : Int)) := fun hc a b => ev_is (ev_op a b rv_I0) (by congr 1; omega)
  have htest : EvT (tTest (tOp (rI0 fun i j => .bl (decide (i < j))) (tOp (rIxL K) (tVar 1) (tC (.int 0))) (tOp (rI0 fun i j => .int (i - j)) (tVar 0) (tC (.int 1))))) [some (.int (n : Int)), some (.ref t), u, v] H' (decide (((rises n).getD i []).getD 0 0 < n - 1)) :=
    et_is (ev_ltI (g := fun i j => decide (i < j)) (ev_atN (ns := (rises n).getD i []) (k := 0) (ev_var rfl) ev_c (sq_of hT) (by omega)) (hsub h1 (ev_var rfl) ev_c)) (by simp only [decide_eq_decide]; omega)
  refine htest H' (Ex.refl _) _ fun H4 e4 => ?_
  by_cases hlast : i + 1 < (rises n).length
  · obtain ⟨g1, g2, g3, g4⟩ := WN.go i hlast
    rw [if_pos (decide_eq_true g1)]
    refine ⟨fun ys' σ' H' => ∃ (t : Addr) (u v : Option V), σ' = [some (.int (n : Int)), some (.ref t), u, v] ∧ Rows H' ys' ((rises n).take (i + 1 + 1)) ∧ H' t = some (.lst (nv ((rises n).getD (i + 1) []))) ∧ Ex H H', fun ys' σ' H' ⟨t, u, v, a, b, c, d⟩ => ⟨(rises n).length - (i + 1), by omega, i + 1, t, u, v, hlast, rfl, a, b, c, d⟩, ?_⟩
    have hT4 := e4 _ _ hT
    generalize hW : (rises n).getD i [] = T at hT hT4 g1 g2 g3 g4 hlen htest
    have cand : EvL (tKc P w .lst (iRng1 (tCons (tVar 0) tNil)) (gName 3) (tTest (tOp (rI0 fun i j => .bl (decide (i < j))) (tOp (rIxL K) (tVar 1) (tVar 3)) (tOp (rI0 fun i j => .int (i - j)) (tVar 0) (tC (.int 1))))) (tVar 3) [3]) [some (.int (n : Int)), some (.ref t), u, v] H4 (nv ((List.range n).filter fun p => decide (T.getD p 0 < n - 1))) := by
      have z := (ek_kcF (P := P) (w := w) .lst (fun p => decide (T.getD p 0 < n - 1)) (fun p => V.int (p : Nat)) (tt := tTest (tOp (rI0 fun i j => .bl (decide (i < j))) (tOp (rIxL K) (tVar 1) (tVar 3)) (tOp (rI0 fun i j => .int (i - j)) (tVar 0) (tC (.int 1))))) (te := tVar 3) (wi := iRng1 (tCons (tVar 0) tNil)) (j := 3) (vs := [3]) (σ := [some (.int (n : Int)), some (.ref t), u, v]) (H := H4) (ei_rng1 (n := (n : Int)) (ea_cons (ev_var rfl) ea_nil) (by omega) (by omega)) (by rw [nums_len]; omega) (fun _ => trivial) (fun _ => rfl) (fun p x H5 e5 hx => ?_) fun p x H5 e5 hx hf => ?_).lst
      · rw [nums_len, Int.toNat_natCast] at z
        exact z
      · obtain ⟨hp, rfl⟩ := nums_at hx
        exact et_is (ev_ltI (g := fun i j => decide (i < j)) (ev_atN (ns := T) (k := p) (ev_var rfl) (ev_is (ev_var rfl) (by rw [Int.zero_add])) (sq_of (e5 _ _ hT4)) (by omega)) (hsub h1 (ev_var rfl) ev_c)) (by simp only [decide_eq_decide]; omega)
      · obtain ⟨hp, rfl⟩ := nums_at hx
        exact ev_is (ev_var rfl) (by rw [Int.zero_add])
    refine s_asg (ev_maxN (K := K) cand (lastUp_mem (by omega) g1) lastUp_max) fun H5 e5 => ?_
    have hT5 := e5 _ _ hT4
    dsimp only [GEnds.at, tGThen, tPlain]
    refine s_asgL (xs := nv ((rises n).getD (i + 1) [])) ?_ fun t' H6 ht' e6 h6 => ?_
    · rw [g3]
      unfold nextT
      rw [nv_app, nv_take, nv_rep, ← cutV_pre (by rw [List.length_map]; omega)]
      refine el_cat (el_sl (ev_var rfl) eo_none (eo_some (ev_var rfl)) (sq_of hT5)) (el_rep1 (el_litN (ev_is (ev_op (ev_atN (ns := T) (k := lastUp n T) (ev_var rfl) (ev_var rfl) (sq_of hT5) (by omega)) ev_c rv_I0) (by simp))) (ev_is (ev_op (ev_var rfl) (ev_var rfl) rv_I0) (by congr 1; omega)) (by omega)) ?_
      have := cutV_length (nv T) none (some (lastUp n T : Int))
      rw [List.length_map] at this
      rw [List.length_replicate]
      omega
    · have hlen2 := hR.1
      rw [List.length_take] at hlen2
      have hsm := WN.small
      refine ⟨by rw [sizeLine_eq]; omega, ?_⟩
      refine el_list (K := K) (ev_var rfl) (sq_of h6) H6 (Ex.refl _) _ fun q2 H7 hq2 e7 h7 => ?_
      refine ⟨t', _, _, rfl, ?_, e7 _ _ h6, (((eH.trans e4).trans e5).trans e6).trans e7⟩
      rw [take_next hlast]
      exact (hR.mono (((e4.trans e5).trans e6).trans e7)).snoc h7
  · have hs := WN.stop i (by omega)
    rw [if_neg (by simpa using hs)]
    refine k ys H4 (eH.trans e4) ?_
    have hR2 := hR.mono e4
    rw [List.take_of_length_le (by omega)] at hR2
    exact hR2
end
end Z
end
/-! Z5 -/
set_option linter.all false
set_option maxRecDepth 100000
set_option maxHeartbeats 4000000
noncomputable section
namespace Z
open PySem PySem.Spec PyProof.Rows L2 PySem.Froz Evl TS

/-- all but a stays -/
def ExB (a : Addr) (H H' : Hp) : Prop := ∀ b o, b ≠ a → H b = some o → H' b = some o
theorem ExB.of {a : Addr} {H H' : Hp} (e : Ex H H') : ExB a H H' := fun b o _ h => e b o h
theorem ExB.trans {a : Addr} {H H1 H2 : Hp} (h : ExB a H H1) (h' : ExB a H1 H2) : ExB a H H2 := fun b o n z => h' b o n (h b o n z)
theorem ExB.upd {a : Addr} {H : Hp} {o : HO} : ExB a H (upd H a o) := fun b u n z => by rw [upd_ne n]; exact z
theorem ExB.base {a : Addr} {G H H' : Hp} (hG : Ex G H) (na : G a = none) (h : ExB a H H') : Ex G H' := fun b o z => h b o (fun q => by rw [q, na] at z; cases z) (hG b o z)
theorem pg_no {X : Cx} {e : Expr} : PG X e (fun _ _ _ _ => False) := ⟨fun _ _ _ _ _ _ _ _ _ h => h.elim⟩
section
variable {P : Program} {w : World} {K : PySem.W.Frag} {σ : L2.St} {H H1 : Hp} {tv to te : TE} {D : Ends} {tz : TS} {a C dx : Addr} {fs : List (PySem.Str × V)} {f : PySem.Str} {wi : TI}
/-- a gathering over nothing -/
theorem ek_none {kd : Kd} {g : TG} {tt : TT} {vs : List Nat} (h : EvI wi σ H []) : EvK P w kd (tKc P w kd wi g tt te vs) σ H [] := fun H0 e Q q => h H0 e _ fun J H1 G e1 eG eG1 nG g D hD => by
  refine ⟨fun i m H' => i = 0 ∧ H' = upd H1 D (kd.ini P w D), ⟨0, rfl, rfl⟩, ?_⟩
  rintro i m H' ⟨rfl, rfl⟩
  refine .inl ⟨g.stop 0 _ (Nat.le_refl _) (eG1.trans (Ex.new hD)), q D _ (fresh_back e1 hD) (e1.trans (Ex.new hD)) ?_⟩
  rw [upd_same, kd.val0]
/-- a new thing -/
def EvN (te : TE) (σ : L2.St) (H : Hp) (o : HO) : Prop := ∀ H1, Ex H H1 → ∀ Q : VK, (∀ p H2, H1 p = none → Ex H1 H2 → H2 p = some o → Q (.ref p) H2) → te σ H1 Q
theorem evp_N {o u : HO} (h : EvN te σ H o) (ha : H a = some u) : EvP te σ H fun v H' => ∃ r, v = .ref r ∧ H' r = some o ∧ r ≠ a := fun H1 e Q q => h H1 e Q fun p H2 hp e2 h2 => q _ H2 e2 ⟨p, rfl, h2, fun z => by rw [z, e _ _ ha] at hp; cases hp⟩
theorem stays_N {o : HO} : ∀ (v : V) (H1 H2 : Hp), Ex H1 H2 → (∃ r, v = .ref r ∧ H1 r = some o ∧ r ≠ a) → ∃ r, v = .ref r ∧ H2 r = some o ∧ r ≠ a := fun _ _ _ e ⟨r, h1, h2, h3⟩ => ⟨r, h1, e _ _ h2, h3⟩
/-- a dict over nothing -/
theorem en_dc0 {g : TG} {tt : TT} {tk : TE} {vs : List Nat} (h : EvI wi σ H []) : EvN (tDc wi g tt tk tv vs) σ H (.dK []) := fun H0 e Q q => h H0 e _ fun J H1 G e1 eG eG1 nG g D hD => by
  refine ⟨fun i m H' => i = 0 ∧ H' = upd H1 D (.dK []), ⟨0, rfl, rfl⟩, ?_⟩
  rintro i m H' ⟨rfl, rfl⟩
  exact .inl ⟨g.stop 0 _ (Nat.le_refl _) (eG1.trans (Ex.new hD)), q D _ (fresh_back e1 hD) (e1.trans (Ex.new hD)) upd_same⟩
/-- a walk over nothing -/
theorem s_forNone {g : TG} {tb : TS} (h : EvI wi σ H []) (e1 : Ex H H1) (k : ∀ H', Ex H1 H' → D.nx σ H') : tFor wi g tb D σ H1 := h H1 e1 _ fun J H2 G e2 eG eG2 nG g => by
  refine ⟨fun i m σ' H' => i = 0 ∧ σ' = σ ∧ H' = H2, ⟨0, rfl, rfl, rfl⟩, ?_⟩
  rintro i m σ' H' ⟨rfl, rfl, rfl⟩
  exact .inl ⟨g.stop 0 _ (Nat.le_refl _) eG2, k _ e2⟩
theorem q_forNone {g : TG} {tb : TS} (h : EvI wi σ H []) (e1 : Ex H H1) (k : ∀ H', Ex H1 H' → tz D σ H') : tSeq (tFor wi g tb) tz D σ H1 := s_forNone (D := { D with nx := tz D }) h e1 k
/-- a.f = value -/
theorem s_fldP {R : V → Hp → Prop} (hv : EvP tv σ H R) (ho : Ev to σ H (.ref a)) (ha : H a = some (.ins C dx fs)) (c : Cls K C) (n : NoAttr K C f) (hz : fs.length < 1000) (st : ∀ v H1 H2, Ex H1 H2 → R v H1 → R v H2) (k : ∀ v H1, Ex H H1 → R v H1 → D.nx σ (upd H1 a (.ins C dx (putF f v fs)))) : sFld K to tv f D σ H :=
  hv H (Ex.refl H) _ fun v H1 e r => ho H1 e _ fun H2 e2 => ⟨a, C, dx, fs, rfl, (e.trans e2) _ _ ha, c, n, hz, k v H2 (e.trans e2) (st _ _ _ e2 r)⟩
theorem s_fldV {v : V} (hv : Ev tv σ H v) (ho : Ev to σ H (.ref a)) (ha : H a = some (.ins C dx fs)) (c : Cls K C) (n : NoAttr K C f) (hz : fs.length < 1000) (k : ∀ H1, Ex H H1 → D.nx σ (upd H1 a (.ins C dx (putF f v fs)))) : sFld K to tv f D σ H :=
  hv H (Ex.refl H) _ fun H1 e => ho H1 e _ fun H2 e2 => ⟨a, C, dx, fs, rfl, (e.trans e2) _ _ ha, c, n, hz, k H2 (e.trans e2)⟩
theorem q_fldP {R : V → Hp → Prop} (hv : EvP tv σ H R) (ho : Ev to σ H (.ref a)) (ha : H a = some (.ins C dx fs)) (c : Cls K C) (n : NoAttr K C f) (hz : fs.length < 1000) (st : ∀ v H1 H2, Ex H1 H2 → R v H1 → R v H2) (k : ∀ v H1, Ex H H1 → R v H1 → tz D σ (upd H1 a (.ins C dx (putF f v fs)))) : tSeq (sFld K to tv f) tz D σ H := s_fldP (D := { D with nx := tz D }) hv ho ha c n hz st k
theorem q_fldV {v : V} (hv : Ev tv σ H v) (ho : Ev to σ H (.ref a)) (ha : H a = some (.ins C dx fs)) (c : Cls K C) (n : NoAttr K C f) (hz : fs.length < 1000) (k : ∀ H1, Ex H H1 → tz D σ (upd H1 a (.ins C dx (putF f v fs)))) : tSeq (sFld K to tv f) tz D σ H := s_fldV (D := { D with nx := tz D }) hv ho ha c n hz k
theorem ev_fld {v : V} (ho : Ev to σ H (.ref a)) (ha : H a = some (.ins C dx fs)) (c : Cls K C) (n : NoAttr K C f) (hl : fs.lookup f = some v) : Ev (tFld K to f) σ H v := fun H1 e Q q => ho H1 e _ fun H2 e2 => ⟨a, C, dx, fs, v, rfl, (e.trans e2) _ _ ha, c, n, hl, q H2 e2⟩
theorem ei_tupN {xs : List V} (h : EvU te σ H xs) : EvI (iTup K te) σ H xs := fun H1 e R q => h H1 e _ fun p H2 hp e2 h2 =>
  ⟨p, rfl, ⟨xs, st_of h2⟩, q _ H2 (upd H p (.tup xs)) e2 (Ex.new (fresh_back e hp)) (fun b o z => by
    by_cases hb : b = p
    · subst hb; rw [upd_same] at z; rw [← z]; exact h2
    · rw [upd_ne hb] at z; exact e2 b o (e b o z)) (fun b n n1 => by
    have ne : b ≠ p := fun z => n1 (by rw [z]; exact hp)
    rw [upd_ne ne]; exact n) (goes_t fun H3 e3 => st_of (e3 p _ upd_same))⟩
end

section
variable {K : PySem.W.Frag} {σ : L2.St} {H : Hp} {te : TE}
theorem ev_isN {x : V} (h : Ev te σ H x) : Ev (tIsN te) σ H (.bl (decide (x = .non))) := fun H1 e Q q => h H1 e _ fun H2 e2 => q H2 e2
/-- a tuple made -/
def RetU (xs : List V) (H : Hp) (Q : VK) : Prop := ∀ p H2, H p = none → Ex H H2 → H2 p = some (.tup xs) → Q (.ref p) H2
theorem eu_call {sp : Sp} {dvs vs xs : List V} {E : XK} {ta : TA} (h : EvA ta σ H vs) (hs : ∀ H1, Ex H H1 → ∀ Q : VK, RetU xs H1 Q → ∀ E : XK, sp (vs ++ dvs) H1 Q E) : EvU (tCall sp dvs E ta) σ H xs := fun H1 e Q q => h H1 e _ fun H2 e2 => hs H2 (e.trans e2) Q (fun p H3 hp e3 h3 => q p H3 (fresh_back e2 hp) (e2.trans e3) h3) E
theorem eu_tupL {a : Addr} {xs : List V} (h : Ev te σ H (.ref a)) (hx : SqL K H a xs) : EvU (tThen te (kTup K)) σ H xs := fun H1 e Q q => h H1 e _ fun H2 e2 => .inl ⟨a, xs, rfl, ⟨ex_l (e.trans e2) hx, fun p hp => q p _ (fresh_back e2 hp) (e2.trans (Ex.new hp)) upd_same⟩⟩
end
/-! ### the class Facts: no told pairs, one paired dial -/
structure FCls (K : PySem.W.Frag) (mg : PySem.Str → Option Value) (CF : Addr) : Prop where
  c : Cls K CF
  n1 : NoAttr K CF "_rows"
  n2 : NoAttr K CF "_paired"
  n3 : NoAttr K CF "_over"
  g : mg "Facts" = some (.ref CF)
  most : ∃ mc t, ClX.CRead K CF mc ∧ ClX.CVal K CF mc "MOST" (.int 24) (.int 24 t)
abbrev fF (r : Addr) (l : PySem.Str) (o : Addr) : List (PySem.Str × V) := [("_rows", .ref r), ("_paired", .str l), ("_over", .ref o)]
/-- told facts at a: no pairs, the paired dial l -/
def FAt (CF : Addr) (H : Hp) (a : Addr) (l : PySem.Str) : Prop := ∃ dx r o, H a = some (.ins CF dx (fF r l o)) ∧ H r = some (.tup [])
theorem FAt.mono {CF : Addr} {H H' : Hp} {a : Addr} {l : PySem.Str} (e : Ex H H') (h : FAt CF H a l) : FAt CF H' a l := let ⟨dx, r, o, h1, h2⟩ := h; ⟨dx, r, o, e _ _ h1, e _ _ h2⟩
abbrev One (l : PySem.Str) : Prop := inS smallsS l = true
theorem One.sign {l : PySem.Str} (h : One l) : ∃ c, l = ⟨#[c]⟩ ∧ c ∈ smallsS.cps.toList := by
  by_cases h1 : l.length = 1
  · obtain ⟨c, rfl⟩ := one_sign h1
    rw [One, inS_one] at h
    exact ⟨c, rfl, of_decide_eq_true h⟩
  · rw [One, inS_len h1] at h; cases h
theorem One.len {l : PySem.Str} (h : One l) : l.length = 1 := by obtain ⟨c, rfl, _⟩ := h.sign; rfl
theorem One.signs {l : PySem.Str} (h : One l) : signsV l = [.str l] := by obtain ⟨c, rfl, _⟩ := h.sign; rfl
/-- a method of a class's body -/
structure DatM (K : PySem.W.Frag) (n q : String) (st : Stmt) (ps : List PySem.Str) (f : Addr) (fd : FuncData) : Prop where
  F : Fun K n q st f fd
  b : Binds K fd ps []
/-- .. with defaults, all given -/
structure DatD (K : PySem.W.Frag) (n q : String) (st : Stmt) (dvs : List V) (kws : List (PySem.Str × V)) (ps : List PySem.Str) (f : Addr) (fd : FuncData) : Prop where
  F : FunD K n q (defArgs st) (defBody st) (defScope st) dvs kws f fd
  b : Binds K fd ps []
section
variable {P : Program} {w : World} {K : PySem.W.Frag} {mg : PySem.Str → Option Value} {base : Heap} {f f1 f2 f3 CF : Addr} {fd fd1 fd2 fd3 : FuncData}
theorem ev_lenU {σ : L2.St} {H : Hp} {te : TE} {xs : List V} (h : EvU te σ H xs) : Ev (tCB (rLenS K) (tCons te tNil)) σ H (.int (xs.length : Int)) := fun H1 e Q q => h H1 e _ fun p H2 _ e2 h2 => ⟨p, xs, rfl, Or.inr (st_of h2), q H2 e2⟩
/-! ### told_facts, _different, _check_told -/
abbrev s_told : Stmt := top 42
def spTold : Sp := fun vs H Q _ => ∃ a : Addr, vs = [.ref a] ∧ RetV (.ref a) H Q
theorem scTold : FnScope ["facts"] ["facts"] (defScope s_told) := ⟨rfl, rfl, rfl, by decide +kernel, rfl, by decide +kernel, by decide +kernel⟩
theorem ok_told (D : Dat K mg "told_facts" s_told ["facts"] f fd) : FnOk P w K mg base (L2.CX P w) 1 f fd ["facts"] spTold := by
  refine D.F.okX scTold (fun vs H Q E h => ?_) (fun cdv A outer s H vs Q E hr h => ?_)
  · obtain ⟨a, rfl, _⟩ := h
    rfl
  · obtain ⟨a, rfl, k⟩ := h
    refine ⟨_, pss_one (ps_ret (pe_ifExp (pt_cmp (pc_isN (pv 0))) pe_no (pv 0))), ?_⟩
    exact s_ret (ev_if (b := false) (et_is (et_B (ev_isN (ev_var rfl))) (decide_eq_false fun h => nomatch h)) (fun h => nomatch h) fun _ => ev_var rfl) fun H1 e => k H1 e
abbrev s_diff : Stmt := top 43
abbrev nDiff : List PySem.Str := ["pairs", "rows", "low", "high"]
def spDiff (K : PySem.W.Frag) : Sp := fun vs H Q _ => ∃ a : Addr, vs = [.ref a] ∧ SqT K H a [] ∧ RetU [] H Q
theorem scDiff : FnScope nDiff ["pairs"] (defScope s_diff) := ⟨rfl, rfl, rfl, by decide +kernel, rfl, by decide +kernel, by decide +kernel⟩
theorem ok_diff (W : Wd mg) (D : Dat K mg "_different" s_diff ["pairs"] f fd) : FnOk P w K mg base (L2.CX P w) 1 f fd ["pairs"] (spDiff K) := by
  refine D.F.okX scDiff (fun vs H Q E h => ?_) (fun cdv A outer s H vs Q E hr h => ?_)
  · obtain ⟨a, rfl, _⟩ := h
    rfl
  · obtain ⟨a, rfl, ha, k⟩ := h
    refine ⟨_, pss_cons (ps_set (i := 1) scDiff.nd rfl (Or.inl rfl) (pe_lst pa_nil))
      (pss_cons (ps_for (passes_of rfl) rfl (pi_tup (pv 0)) pg_no pss_no)
      (pss_one (ps_ret (pe_tupleOf rfl W.tuple (pv 1))))), ?_⟩
    refine q_asgL (el_lst (vs := []) ea_nil (by decide)) fun l H1 hl e1 h1 => ?_
    refine q_forNone (ei_tup (K := K) (ev_var rfl) (ex_t e1 ha)) (Ex.refl _) fun H2 e2 => ?_
    exact s_retU (eu_tupL (K := K) (ev_var rfl) (sq_of (e2 _ _ h1))) fun p H3 hp e3 h3 => k p H3 (fresh_back (e1.trans e2) hp) ((e1.trans e2).trans e3) h3
abbrev s_checkT : Stmt := top 44
abbrev nCheckT : List PySem.Str := ["pairs", "paired", "most", "letter", "low", "high"]
def spCheckT (K : PySem.W.Frag) : Sp := fun vs H Q _ => ∃ (a : Addr) (l : PySem.Str), vs = [.ref a, .str l, .int 24] ∧ SqT K H a [] ∧ One l ∧ RetV .non H Q
theorem scCheckT : FnScope nCheckT ["pairs", "paired", "most"] (defScope s_checkT) := ⟨rfl, rfl, rfl, by decide +kernel, rfl, by decide +kernel, by decide +kernel⟩
theorem ok_checkT (W : Wd mg) (D : Dat K mg "_check_told" s_checkT ["pairs", "paired", "most"] f fd) (D1 : Dat K mg "is_small" s_is_small ["text"] f1 fd1) (G1 : FnOk P w K mg base (L2.CX P w) 1 f1 fd1 ["text"] (spB (inS smallsS)))
    (D2 : Dat K mg "_different" s_diff ["pairs"] f2 fd2) (G2 : FnOk P w K mg base (L2.CX P w) 1 f2 fd2 ["pairs"] (spDiff K)) : FnOk P w K mg base (L2.CX P w) 2 f fd ["pairs", "paired", "most"] (spCheckT K) := by
  refine D.F.okX scCheckT (fun vs H Q E h => ?_) (fun cdv A outer s H vs Q E hr h => ?_)
  · obtain ⟨a, l, rfl, _⟩ := h
    rfl
  · obtain ⟨a, l, rfl, ha, hl, k⟩ := h
    refine ⟨_, pss_cons (ps_for (passes_of rfl) rfl (pi_str (pv 1)) (pg_name (i := 3) scCheckT.nd rfl (Or.inl rfl)) (pss_one (ps_if (pt_not (pt_val (pe_call G1 hr rfl D1.g D1.k D1.b .nil pas0 (pa_cons (pv 3) pa_nil)))) pss_no pss_nil)))
      (pss_cons (ps_for (passes_of rfl) rfl (pi_tup (pv 0)) pg_no pss_no)
      (pss_cons (ps_for (passes_of rfl) rfl (pi_tup (pv 0)) pg_no pss_no)
      (pss_one (ps_if (pt_cmpR op_gt (pe_callB call_len_seq (by rfl) W.len PySem.boot_len (pa_cons (pe_call G2 hr rfl D2.g D2.k D2.b .nil pas0 (pa_cons (pv 0) pa_nil)) pa_nil)) (pv 2) (nomark _)) pss_no pss_nil)))), ?_⟩
    have hl1 := hl.len
    have hsg := hl.signs
    refine q_forI (H := H) (ei_str (x := l) (ev_var rfl)) (Ex.refl H) (fun _ _ σ' H' => (∃ v, σ' = [some (.ref a), some (.str l), some (.int 24), v, none, none]) ∧ Ex H H') (fun _ H2 _ e2 _ => ⟨⟨none, rfl⟩, e2⟩) ?_ ?_
    · rintro G i x σ' H' eG eG' hx ⟨⟨v, rfl⟩, e⟩
      rw [hsg] at hx
      have hx' : x = .str l := by
        match i, hx with
        | 0, hx => simpa using hx.symm
      subst hx'
      refine s_when (b := false) (et_is (et_not (et_B (ev_call (vs := [.str l]) (ea_cons (ev_var rfl) ea_nil) (sv_B (by omega))))) (by rw [show inS smallsS l = true from hl]; rfl)) (fun h => nomatch h) fun _ H2 e2 => ⟨eG'.trans e2, ⟨_, rfl⟩, e.trans e2⟩
    · rintro G σ' H' eG eG' ⟨⟨v, rfl⟩, e⟩
      refine q_forNone (ei_tup (K := K) (ev_var rfl) (ex_t e ha)) (Ex.refl _) fun H2 e2 => ?_
      refine q_forNone (ei_tup (K := K) (ev_var rfl) (ex_t (e.trans e2) ha)) (Ex.refl _) fun H3 e3 => ?_
      have ha3 := ex_t ((e.trans e2).trans e3) ha
      have ed : EvU (tCall (spDiff K) [] E0 (tCons (tVar 0) tNil)) [some (.ref a), some (.str l), some (.int 24), v, none, none] H3 [] := eu_call (ea_cons (ev_var rfl) ea_nil) fun H4 e4 Q2 q2 E2 => ⟨a, rfl, ex_t e4 ha3, q2⟩
      refine s_when (b := false) (et_is (ev_ltI (g := fun i j => decide (i > j)) (ev_lenU ed) (ev_var rfl)) (by decide)) (fun h => nomatch h) fun _ H4 e4 => k H4 (((e.trans e2).trans e3).trans e4)
end
end Z
end
/-! Z6 -/
set_option linter.all false
set_option maxRecDepth 100000
set_option maxHeartbeats 4000000
noncomputable section
namespace Z
open PySem PySem.Spec PyProof.Rows L2 PySem.Froz Evl TS

section
variable {X : Cx} {elt tg iter tg1 iter1 : Expr} {ifs ifs1 : List Expr} {scope : Scope} {own : List (PySem.Str × Nat)} {vs1 : List Nat} {pos : Pos} {wi wi1 : TI} {g g1 : TG} {tt tt1 : TT} {te : TE}
theorem pe_s1 (hc : X.calm = true) (hN : X.N.Nodup) (hi : PI X tg iter wi) (ok : BlkOk X.N X.env.scope scope own)
    (hg : ∀ (s : Shared) (H : Hp) (C : Addr) (cl : List (PySem.Str × Addr)) (fp : List Addr), PG (X.blk s H scope (compEnvC scope cl C X.env) fp) tg g) (ht : ∀ (s : Shared) (H : Hp) (C : Addr) (cl : List (PySem.Str × Addr)) (fp : List Addr), PTs (X.blk s H scope (compEnvC scope cl C X.env) fp) ifs tt)
    (he : ∀ (s : Shared) (H : Hp) (C : Addr) (cl : List (PySem.Str × Addr)) (fp : List Addr), PE (X.blk s H scope (compEnvC scope cl C X.env) fp) elt te) (hs : ∀ x, foldedSetIterable iter X.env x = pure x := by intro _; rfl) :
    PE X (.SetComp elt [⟨tg, iter, ifs, 0⟩] scope pos) (tKc X.prog X.w .set wi g tt te (own.map (·.2))) :=
  kc_run (kd := .set) (xb := xnone) (Pz := fun _ => True) hc hN hi ok (fun _ _ _ z => z.elim) (fun _ _ _ _ _ _ _ _ => trivial) (fun s H C cl fp _ => hg s H C cl fp) (fun s H C cl fp _ => ht s H C cl fp) (fun s H C cl fp _ => he s H C cl fp) hs
theorem pe_l2 (hc : X.calm = true) (hN : X.N.Nodup) (hi : PI X tg iter wi) (ok : BlkOk X.N X.env.scope scope own) (hv : ∀ i ∈ vs1, i ∈ own.map (·.2))
    (hg : ∀ (s : Shared) (H : Hp) (C : Addr) (cl : List (PySem.Str × Addr)) (fp : List Addr), PG (X.blk s H scope (compEnvC scope cl C X.env) fp) tg g) (ht : ∀ (s : Shared) (H : Hp) (C : Addr) (cl : List (PySem.Str × Addr)) (fp : List Addr), PTs (X.blk s H scope (compEnvC scope cl C X.env) fp) ifs tt)
    (hi1 : ∀ (s : Shared) (H : Hp) (C : Addr) (cl : List (PySem.Str × Addr)) (fp : List Addr), PI (X.blk s H scope (compEnvC scope cl C X.env) fp) tg1 iter1 wi1)
    (hg1 : ∀ (s : Shared) (H : Hp) (C : Addr) (cl : List (PySem.Str × Addr)) (fp : List Addr), PG (X.blk s H scope (compEnvC scope cl C X.env) fp) tg1 g1) (ht1 : ∀ (s : Shared) (H : Hp) (C : Addr) (cl : List (PySem.Str × Addr)) (fp : List Addr), PTs (X.blk s H scope (compEnvC scope cl C X.env) fp) ifs1 tt1)
    (he : ∀ (s : Shared) (H : Hp) (C : Addr) (cl : List (PySem.Str × Addr)) (fp : List Addr), PE (X.blk s H scope (compEnvC scope cl C X.env) fp) elt te) (hs : ∀ x, foldedSetIterable iter X.env x = pure x := by intro _; rfl) (hs1 : ∀ env x, foldedSetIterable iter1 env x = pure x := by intro _ _; rfl) :
    PE X (.ListComp elt [⟨tg, iter, ifs, 0⟩, ⟨tg1, iter1, ifs1, 0⟩] scope pos) (tKc2 X.prog X.w .lst wi g tt wi1 g1 tt1 te (own.map (·.2)) vs1) :=
  kc2_run (kd := .lst) (xb := xnone) (Pz := fun _ => True) hc hN hi ok hv (fun _ _ _ z => z.elim) (fun _ _ _ _ _ _ _ _ => trivial) (fun s H C cl fp _ => hg s H C cl fp) (fun s H C cl fp _ => ht s H C cl fp) (fun s H C cl fp _ => hi1 s H C cl fp) hg1 ht1 he hs hs1
theorem pts_no {ifs : List Expr} : PTs X ifs (fun _ _ _ => False) := ⟨fun _ _ _ _ _ _ h => h.elim⟩
end
section
variable {P : Program} {w : World} {K : PySem.W.Frag} {σ : L2.St} {H H1 : Hp} {to te : TE} {wi wi1 : TI}
theorem ek_none2 {kd : Kd} {g g1 : TG} {tt tt1 : TT} {vs vs1 : List Nat} (h : EvI wi σ H []) : EvK P w kd (tKc2 P w kd wi g tt wi1 g1 tt1 te vs vs1) σ H [] := fun H0 e Q q => h H0 e _ fun J H1 G e1 eG eG1 nG g D hD => by
  refine ⟨fun i m H' => i = 0 ∧ H' = upd H1 D (kd.ini P w D), ⟨0, rfl, rfl⟩, ?_⟩
  rintro i m H' ⟨rfl, rfl⟩
  refine .inl ⟨g.stop 0 _ (Nat.le_refl _) (eG1.trans (Ex.new hD)), q D _ (fresh_back e1 hD) (e1.trans (Ex.new hD)) ?_⟩
  rw [upd_same, kd.val0]
theorem el_none2 {g g1 : TG} {tt tt1 : TT} {vs vs1 : List Nat} (h : EvI wi σ H []) : EvL (tLc2 wi g tt wi1 g1 tt1 te vs vs1) σ H [] := fun H0 e Q q => h H0 e _ fun J H1 G e1 eG eG1 nG g D hD => by
  refine ⟨fun i m H' => i = 0 ∧ H' = upd H1 D (.lst []), ⟨0, rfl, rfl⟩, ?_⟩
  rintro i m H' ⟨rfl, rfl⟩
  exact .inl ⟨g.stop 0 _ (Nat.le_refl _) (eG1.trans (Ex.new hD)), q D _ (fresh_back e1 hD) (e1.trans (Ex.new hD)) upd_same⟩
theorem ev_join {x : PySem.Str} (hl : x.length = 1) (ho : ∀ H1, Ex H H1 → Ev to σ H1 (.str Str.empty)) (h : EvL te σ H [.str x]) : Ev (tM1 (fun x xs H Q => ∃ a p, ∃ ys : List PySem.Str, x = .str a ∧ xs = [.ref p] ∧ (SqL K H p (ys.map V.str) ∨ SqT K H p (ys.map V.str)) ∧
      (ys.map (·.length)).sum + ys.length * a.length ≤ 16777216 ∧ Q (.str (Txt.join a ys)) H) to te) σ H (.str x) := fun H1 e Q q =>
  ho H1 e H1 (Ex.refl _) _ fun H2 e2 => ⟨⟨_, rfl⟩, h H2 (e.trans e2) _ fun p H3 hp e3 h3 => ⟨Str.empty, p, [x], rfl, rfl, .inl (sq_of h3), by simp [Str.empty, Str.length]; rw [show x.cps.size = 1 from hl]; decide, by
    have z : Txt.join Str.empty [x] = x := by
      obtain ⟨c, rfl⟩ := one_sign hl
      first | rfl | (unfold Txt.join; simp) | decide
    rw [z]; exact q H3 (e2.trans e3)⟩⟩
/-- set(text) of one sign -/
theorem ek_setOne {x : PySem.Str} (h : Ev te σ H (.str x)) (h1 : One x) : EvK P w .set (tCB (rSetNew P w K) (tCons te tNil)) σ H [.str x] := fun H1 e Q q => h H1 e _ fun H2 e2 => by
  obtain ⟨c, rfl, _⟩ := h1.sign
  exact ⟨_, [⟨#[c]⟩], rfl, .inr (.inr ⟨_, rfl, rfl⟩), by simp, fun p hp => q p _ (fresh_back e2 hp) (e2.trans (Ex.new hp)) upd_same⟩
/-- set(a new list of texts) -/
theorem ek_setL {ss : List PySem.Str} (h : EvL te σ H (ss.map V.str)) (hz : ss.length ≤ 4000) : EvK P w .set (tCB (rSetNew P w K) (tCons te tNil)) σ H (ss.map V.str) := fun H1 e Q q => h H1 e _ fun a H2 ha e2 h2 => by
  refine ⟨_, ss, rfl, .inl ⟨a, rfl, sq_of h2⟩, hz, fun p hp => q p _ (fresh_back e2 hp) (e2.trans (Ex.new hp)) ?_⟩
  rw [upd_same]
  show some (SetS P w p (intoSet [] ss)) = some (SetS P w p (intoSet [] ((ss.map V.str).map strV)))
  rw [strV_map]
theorem ord_one {x : PySem.Str} (h : x.length = 1) : wordOrd [x] = [x] := ((wordOrd_one (n := 1) (by simp) (by simp) (by simpa using h)).eq).symm
theorem ord_nil : wordOrd [] = [] := ((wordOrd_one (n := 1) (by simp) (by simp) (by simp)).eq).symm
end

section
variable {P : Program} {w : World} {K : PySem.W.Frag} {mg : PySem.Str → Option Value} {base : Heap} {f f1 f2 f3 CF : Addr} {fd fd1 fd2 fd3 : FuncData}
theorem ev_cval {σ : L2.St} {H : Hp} {mc : Value} {C : Addr} {f : PySem.Str} {v : V} {u : Value} (r : ClX.CRead K C mc) (k : ClX.CVal K C mc f v u) : Ev (ClX.tCVal K (tC (.ref C)) f) σ H v := fun H1 e Q q => ⟨C, mc, v, u, rfl, r, k, q H1 (Ex.refl H1)⟩
/-! ### Facts.__init__ -/
abbrev c_facts : Stmt := top 46
abbrev s_finit : Stmt := inClass c_facts 1
abbrev nFI : List PySem.Str := ["self", "paired", "below", "parts", "low", "high", "part"]
def spFI (CF : Addr) : Sp := fun vs H Q _ => ∃ (a dx p : Addr) (l : PySem.Str), vs = [.ref a, .str l, .ref p] ∧ H a = some (.ins CF dx []) ∧ H p = some (.tup []) ∧ One l ∧ ∀ H2, ExB a H H2 → (∃ r o, H2 a = some (.ins CF dx (fF r l o)) ∧ H2 r = some (.tup [])) → Q .non H2
theorem scFI : FnScope nFI ["self", "paired", "below"] (defScope s_finit) := ⟨rfl, rfl, rfl, by decide +kernel, rfl, by decide +kernel, by decide +kernel⟩
theorem ok_finit (W : Wd mg) (FC : FCls K mg CF) (F : FunD K "__init__" "Facts.__init__" (defArgs s_finit) (defBody s_finit) (defScope s_finit) [] [("paired", .str "")] f fd)
    (D1 : Dat K mg "_check_told" s_checkT ["pairs", "paired", "most"] f1 fd1) (G1 : FnOk P w K mg base (L2.CX P w) 2 f1 fd1 ["pairs", "paired", "most"] (spCheckT K)) (D2 : Dat K mg "_different" s_diff ["pairs"] f2 fd2) (G2 : FnOk P w K mg base (L2.CX P w) 1 f2 fd2 ["pairs"] (spDiff K)) :
    FnSK P w K mg base (L2.CX P w) 3 f "paired" (fun x vs y H Q E => vs.length ≤ sizeLine ∧ ∀ p, H p = Option.none → spFI CF [x, y, V.ref p] (upd H p (.tup vs)) Q E) := by
  obtain ⟨oc, od, dV, kV, doc, pm, an, cdv, ct, osl, rfl, lk, hcd, hD, _⟩ := F.ex
  obtain rfl : dV = .none := hD.elim (fun z => z.2) fun z => absurd rfl z.1
  obtain ⟨mc, tk, cr, cv⟩ := FC.most
  refine fn_starK lk hcd scFI StX.cxUp (fun a rest z => by match rest with | [] => rfl | _ :: _ => rfl) fun A outer s H vs Q E hr h => ?_
  obtain ⟨a, dx, p, l, rfl, ha, hp, hl, k⟩ := h
  refine ⟨_, pss_cons (ps_expr (pe_call G1 hr rfl D1.g D1.k D1.b .nil pas0 (pa_cons (pv 2) (pa_cons (pv 1) (pa_cons (ClX.pe_cval (pe_glob (v := .ref CF) rfl FC.g rfl)) pa_nil)))))
    (pss_cons (ps_fld (pv 0) (pe_call G2 (hr.mono (by decide)) rfl D2.g D2.k D2.b .nil pas0 (pa_cons (pv 2) pa_nil)) rfl)
    (pss_cons (ps_fld (pv 0) (pe_join pe_str (pe_callB (TS.cr_sortedSet rfl) (by rfl) W.sorted boot_sorted (pa_cons (pe_callTy (cr_setNew rfl) rfl W.set PyProof.Rows.boot_set (pa_cons (pv 1) pa_nil)) pa_nil))) rfl)
    (pss_cons (ps_set (i := 3) scFI.nd rfl (Or.inl rfl) (pe_callB (TS.cr_sortedSet rfl) (by rfl) W.sorted boot_sorted (pa_cons (pe_s1 (own := [("low", 4), ("high", 5)]) rfl scFI.nd (pi_tup (pe_fld (pv 0) rfl)) (blkOk_by (N := nFI) (sc := defScope s_finit) (by decide +kernel))
        (fun _ _ _ _ _ => pg_no) (fun _ _ _ _ _ => pts_nil) (fun _ _ _ _ _ => pe_no)) pa_nil)))
    (pss_one (ps_fld (pv 0) (pe_dc (own := [("part", 6)]) rfl scFI.nd (pi_list (pv 3)) (blkOk_by (N := nFI) (sc := defScope s_finit) (by decide +kernel))
        (fun _ _ _ _ _ => pg_no) (fun _ _ _ _ _ => pts_nil) (fun _ _ _ _ _ => pe_no) (fun _ _ _ _ _ => pe_no)) rfl))))), ?_⟩
  refine q_drop (ev_call (z := .non) (vs := [.ref p, .str l, .int 24]) (ea_cons (ev_var rfl) (ea_cons (ev_var rfl) (ea_cons (ev_cval cr cv) ea_nil))) fun H1 e1 Q1 q1 E1 => ⟨p, l, rfl, ex_t e1 (st_of hp), hl, fun H2 e2 => q1 H2 e2⟩) fun H1 e1 => ?_
  have ha1 := e1 _ _ ha
  have hp1 := e1 _ _ hp
  have hpa : p ≠ a := fun z => by rw [z, ha] at hp; cases hp
  refine q_fldP (evp_N (o := .tup []) (eu_call (vs := [.ref p]) (ea_cons (ev_var rfl) ea_nil) fun H2 e2 Q2 q2 E2 => ⟨p, rfl, ex_t e2 (st_of hp1), q2⟩) ha1) (ev_var rfl) ha1 FC.c FC.n1 (by decide) stays_N fun v H2 e2 ⟨r, hv, hr2, hra⟩ => ?_
  subst hv
  generalize hH3 : upd H2 a (.ins CF dx (putF "_rows" (.ref r) [])) = H3
  have ha3 : H3 a = some (.ins CF dx [("_rows", .ref r)]) := by rw [← hH3, upd_same]; rfl
  have hr3 : H3 r = some (.tup []) := by rw [← hH3, upd_ne hra]; exact hr2
  have b3 : ExB a H H3 := by rw [← hH3]; exact (ExB.of (e1.trans e2)).trans .upd
  have h1 := hl.len
  refine q_fldV (v := .str l) (ev_join (K := K) h1 (fun _ _ => ev_c) (by rw [show [V.str l] = (wordOrd [l]).map V.str by rw [ord_one h1]; rfl]; exact el_sortOne (n := 1) (ek_setOne (K := K) (ev_var rfl) hl) (by simp) (by simpa using h1))) (ev_var rfl) ha3 FC.c FC.n2 (by simp) fun H4 e4 => ?_
  generalize hH5 : upd H4 a (.ins CF dx (putF "_paired" (.str l) [("_rows", .ref r)])) = H5
  have ha5 : H5 a = some (.ins CF dx [("_rows", .ref r), ("_paired", .str l)]) := by rw [← hH5, upd_same]; rfl
  have hr5 : H5 r = some (.tup []) := by rw [← hH5, upd_ne hra]; exact e4 _ _ hr3
  have b5 : ExB a H H5 := by rw [← hH5]; exact (b3.trans (.of e4)).trans .upd
  refine q_asgL (xs := []) (by
    rw [show ([] : List V) = (wordOrd []).map V.str by rw [ord_nil]; rfl]
    exact el_sortOne (n := 1) (ss := []) (ek_none (ei_tup (K := K) (ev_fld (K := K) (ev_var rfl) ha5 FC.c FC.n1 rfl) (st_of hr5))) (by simp) (by simp)) fun q H6 hq e6 h6 => ?_
  have ha6 := e6 _ _ ha5
  refine s_fldP (evp_N (en_dc0 (ei_list (K := K) (ev_var rfl) (sq_of h6))) ha6) (ev_var rfl) ha6 FC.c FC.n3 (by simp) stays_N fun v H7 e7 ⟨o, hv, ho, hoa⟩ => ?_
  subst hv
  exact k _ ((b5.trans (.of (e6.trans e7))).trans .upd) ⟨r, o, by rw [upd_same]; rfl, by rw [upd_ne hra]; exact (e6.trans e7) _ _ hr5⟩
/-! ### Facts.listed, .paired, .dial_list -/
abbrev s_listed : Stmt := inClass c_facts 2
/-- Facts.listed([], l) -/
def spListed (K : PySem.W.Frag) (CF : Addr) : Sp := fun vs H Q _ => ∃ (p : Addr) (l : PySem.Str), vs = [.ref p, .str l] ∧ SqL K H p [] ∧ One l ∧ ∀ a H2, H a = none → Ex H H2 → FAt CF H2 a l → Q (.ref a) H2
theorem scListed : FnScope ["pairs", "paired"] ["pairs", "paired"] (defScope s_listed) := ⟨rfl, rfl, rfl, by decide +kernel, rfl, by decide +kernel, by decide +kernel⟩
theorem upd_make {H : Hp} {x dx : Addr} {C : Addr} (hx : H x = none) (hd : H dx = none) : Ex H (upd (upd H dx (.own x)) x (.ins C dx [])) := fun b o h => by
  rw [upd_ne (fun z => by rw [z, hx] at h; cases h), upd_ne (fun z => by rw [z, hd] at h; cases h)]; exact h
theorem ok_listed (W : Wd mg) (FC : FCls K mg CF) (M : Mk K CF f2) (D : DatD K "listed" "Facts.listed" s_listed [.str ""] [] ["pairs", "paired"] f fd)
    (GI : FnSK P w K mg base (L2.CX P w) 3 f2 "paired" (fun x vs y H Q E => vs.length ≤ sizeLine ∧ ∀ p, H p = Option.none → spFI CF [x, y, V.ref p] (upd H p (.tup vs)) Q E)) : FnOk P w K mg base (L2.CX P w) 5 f fd ["pairs", "paired"] (spListed K CF) := by
  refine D.F.ok scListed (fun vs H Q E h => ?_) (fun cdv A outer s H vs Q E hr h => ?_)
  · obtain ⟨p, l, rfl, _⟩ := h
    rfl
  · obtain ⟨p, l, rfl, hp, hl, k⟩ := h
    refine ⟨_, pss_one (ps_ret (pe_makeSK M GI hr rfl FC.g (pas0 (X := cxOf (L2.CX P w) P w K mg base ["pairs", "paired"] "Facts.listed" (defScope s_listed) f cdv A outer s H E)) (pv 0) (pk_cons (pv 1) pk_nil))), ?_⟩
    refine ⟨.ref p, rfl, .str l, rfl, p, [], .str l, rfl, .inr hp, rfl, ?_⟩
    intro x dx hx hdx hne
    refine ⟨by simp, fun t ht => ?_⟩
    have m := upd_make (C := CF) hx hdx
    have hxs : (upd (upd H dx (.own x)) x (.ins CF dx [])) x = some (.ins CF dx []) := upd_same
    have txx : t ≠ x := fun z => by rw [z, hxs] at ht; cases ht
    refine ⟨x, dx, t, l, rfl, by rw [upd_ne (Ne.symm txx)]; exact hxs, upd_same, hl, fun H2 b2 ⟨r, o, h1, h2⟩ => ⟨rfl, k x H2 hx ?_ ⟨dx, r, o, h1, h2⟩⟩⟩
    exact b2.base (m.trans (Ex.new ht)) hx
abbrev s_paired : Stmt := inClass c_facts 3
theorem scSelf1 : FnScope ["self"] ["self"] (defScope s_paired) := ⟨rfl, rfl, rfl, by decide +kernel, rfl, by decide +kernel, by decide +kernel⟩
def spPaired (CF : Addr) : Sp := fun vs H Q _ => ∃ (a : Addr) (l : PySem.Str), vs = [.ref a] ∧ FAt CF H a l ∧ RetV (.str l) H Q
theorem ok_paired (FC : FCls K mg CF) (D : DatM K "paired" "Facts.paired" s_paired ["self"] f fd) : FnOk P w K mg base (L2.CX P w) 1 f fd ["self"] (spPaired CF) := by
  refine D.F.okX scSelf1 (fun vs H Q E h => ?_) (fun cdv A outer s H vs Q E hr h => ?_)
  · obtain ⟨a, l, rfl, _⟩ := h
    rfl
  · obtain ⟨a, l, rfl, ⟨dx, r, o, ha, hr1⟩, k⟩ := h
    exact ⟨_, pss_one (ps_ret (pe_fld (pv 0) rfl)), s_ret (ev_fld (K := K) (ev_var rfl) ha FC.c FC.n2 rfl) fun H1 e => k H1 e⟩
abbrev s_fdials : Stmt := inClass c_facts 7
abbrev nFD : List PySem.Str := ["self", "told", "pair", "part"]
theorem scFD : FnScope nFD ["self"] (defScope s_fdials) := ⟨rfl, rfl, rfl, by decide +kernel, rfl, by decide +kernel, by decide +kernel⟩
def spFD (CF : Addr) : Sp := fun vs H Q _ => ∃ (a : Addr) (l : PySem.Str), vs = [.ref a] ∧ FAt CF H a l ∧ One l ∧ RetL [.str l] H Q
theorem ok_fdials (W : Wd mg) (FC : FCls K mg CF) (D : DatM K "dial_list" "Facts.dial_list" s_fdials ["self"] f fd) : FnOk P w K mg base (L2.CX P w) 1 f fd ["self"] (spFD CF) := by
  refine D.F.okX scFD (fun vs H Q E h => ?_) (fun cdv A outer s H vs Q E hr h => ?_)
  · obtain ⟨a, l, rfl, _⟩ := h
    rfl
  · obtain ⟨a, l, rfl, ⟨dx, r, o, ha, hr1⟩, hl, k⟩ := h
    refine ⟨_, pss_cons (ps_setLc2 (i := 1) (own := [("pair", 2), ("part", 3)]) (vs1 := [3]) rfl scFD.nd rfl rfl (sw_true rfl rfl rfl (by decide +kernel)) (pi_tup (pe_fld (pv 0) rfl)) (blkOk_by (N := nFD) (sc := defScope s_fdials) (by decide +kernel)) (by decide)
        (fun _ _ _ _ _ => pg_no) (fun _ _ _ _ _ => pts_nil) (fun _ _ _ _ _ => pi_no) (fun _ _ _ _ _ => pg_no) (fun _ _ _ _ _ => pts_no) (fun _ _ _ _ _ => pe_no))
      (pss_one (ps_ret (pe_callB (TS.cr_sortedSet rfl) (by rfl) W.sorted boot_sorted (pa_cons (pe_callTy (cr_setNew rfl) rfl W.set PyProof.Rows.boot_set (pa_cons (pe_lst (StX.pa_star (pv 1) (pa_starS rfl (pe_fld (pv 0) rfl) pa_nil))) pa_nil)) pa_nil)))), ?_⟩
    have h1 := hl.len
    refine q_asgL (xs := []) (el_none2 (ei_tup (K := K) (ev_fld (K := K) (ev_var rfl) ha FC.c FC.n1 rfl) (st_of hr1))) fun p H1 hp e1 h1' => ?_
    refine s_retL (xs := [.str l]) ?_ fun q H2 hq e2 h2 => k.go e1 hq e2 h2
    rw [show [V.str l] = (wordOrd [l]).map V.str by rw [ord_one h1]; rfl]
    refine el_sortOne (n := 1) (ss := [l]) (ek_setL (K := K) ?_ (by simp)) (by simp) (by simpa using h1)
    rw [show [l].map V.str = [] ++ (signsV l ++ []) by rw [hl.signs]; rfl]
    exact el_lst (ea_star (ev_var rfl) (.inr (sq_of h1')) (ea_starS (ev_fld (K := K) (ev_var rfl) (e1 _ _ ha) FC.c FC.n2 rfl) (by omega) ea_nil)) (by rw [hl.signs]; simp)
/-! ### Facts.__iter__ -/
abbrev s_fiter : Stmt := inClass c_facts 14
theorem scFIter : FnScope ["self"] ["self"] (defScope s_fiter) := ⟨rfl, rfl, rfl, by decide +kernel, rfl, by decide +kernel, by decide +kernel⟩
theorem ok_fiter (W : Wd mg) (FC : FCls K mg CF) (D : DatM K "__iter__" "Facts.__iter__" s_fiter ["self"] f fd) : FnIt P w K mg base 1 f CF "_rows" := by
  have b := D.b
  obtain ⟨oc, od, kV, doc, pm, an, cdv, ct, osl, rfl, lk, hcd⟩ := D.F.ex
  exact fnIt_of lk hcd scFIter (fun s a hk => by have z := b s [a] hk rfl; rw [List.append_nil] at z; exact z) FC.c FC.n1 W.iter (fun _ _ _ _ _ _ => rfl)
end
end Z
end
/-! Z7 -/
set_option linter.all false
set_option maxRecDepth 100000
set_option maxHeartbeats 4000000
noncomputable section
namespace Z
open PySem PySem.Spec PyProof.Rows L2 PySem.Froz Evl TS

section
variable {P : Program} {w : World} {K : PySem.W.Frag} {σ : L2.St} {H H1 : Hp} {ta tb te tk tv to : TE} {D : Ends} {d : Addr} {tt : TT} {i j : Nat} {k : Key} {v : V}
/-- what is locked comes back -/
theorem lock_ex {H H' : Hp} {d : Addr} {u : HO} {od : Obj} (hd : H d = some u) (e : Ex (upd H d (.frz od u)) H') : H' d = some (.frz od u) ∧ Ex H (upd H' d u) := by
  refine ⟨e _ _ upd_same, fun b o h => ?_⟩
  by_cases hb : b = d
  · subst hb; rw [upd_same, ← hd, h]
  · rw [upd_ne hb]; exact e _ _ (by rw [upd_ne hb]; exact h)
/-- for k, v in d.items(): if ..: raise; one item, none -/
theorem s_items1 {tr : TS} (hd : H d = some (.dK [(k, v)])) (he : ∀ H', Ev te σ H' (.ref d)) (ht : ∀ od, EvT tt ((σ.set i (some (kV k))).set j (some v)) (upd H d (.frz od (.dK [(k, v)]))) false) (hr : ∀ H2, Ex H H2 → D.nx ((σ.set i (some (kV k))).set j (some v)) H2) :
    tLock (tFor (iItems te) (gTup K 2 (gCons (gName i) (gCons (gName j) gNil))) (tIfS tt tr tNext)) D σ H := by
  refine ⟨d, _, hd, trivial, fun od => ?_⟩
  refine he _ _ (Ex.refl _) _ fun H1 e1 => ⟨d, od, _, rfl, e1 _ _ upd_same, ?_⟩
  refine ⟨fun n m σ' H' => Ex (upd H d (.frz od (.dK [(k, v)]))) H' ∧ ((n = 0 ∧ m = 1 ∧ σ' = σ) ∨ (n = 1 ∧ m = 0 ∧ σ' = (σ.set i (some (kV k))).set j (some v))), ⟨1, e1, .inl ⟨rfl, rfl, rfl⟩⟩, ?_⟩
  rintro n m σ' H' ⟨e, ⟨rfl, rfl, rfl⟩ | ⟨rfl, rfl, rfl⟩⟩
  · refine .inr ⟨⟨e _ _ upd_same, by simp⟩, fun σ2 H2 => Ex (upd H d (.frz od (.dK [(k, v)]))) H2 ∧ σ2 = (σ'.set i (some (kV k))).set j (some v), fun σ2 H2 ⟨p, q⟩ => ⟨0, by omega, p, .inr ⟨rfl, rfl, q⟩⟩, fun y H3 hy => ?_⟩
    obtain ⟨T, k', v', hk, rfl, hT, rfl⟩ := hy
    have hk2 : (k, v) = (k', v') := by simpa using hk
    cases hk2
    have new : Ex H' (upd H' T (.tup [kV k, v])) := Ex.new hT
    refine ⟨T, _, rfl, st_of upd_same, rfl, _, _, rfl, _, _, rfl, rfl, ?_⟩
    exact ht od _ (e.trans new) _ fun H4 e4 => ⟨(e.trans new).trans e4, rfl⟩
  · exact .inl ⟨⟨e _ _ upd_same, by simp⟩, lock_ex hd e |>.1, hr _ (lock_ex hd e).2⟩
/-- .. over no items -/
theorem s_items0 {g : TG} {tb : TS} (hd : H d = some (.dK [])) (he : ∀ H', Ev te σ H' (.ref d)) (hr : ∀ H2, Ex H H2 → D.nx σ H2) : tLock (tFor (iItems te) g tb) D σ H := by
  refine ⟨d, _, hd, trivial, fun od => ?_⟩
  refine he _ _ (Ex.refl _) _ fun H1 e1 => ⟨d, od, _, rfl, e1 _ _ upd_same, ?_⟩
  refine ⟨fun n m σ' H' => Ex (upd H d (.frz od (.dK []))) H' ∧ n = 0 ∧ σ' = σ, ⟨0, e1, rfl, rfl⟩, ?_⟩
  rintro n m σ' H' ⟨e, rfl, rfl⟩
  exact .inl ⟨⟨e _ _ upd_same, by simp⟩, lock_ex hd e |>.1, hr _ (lock_ex hd e).2⟩
/-- {k: list(v) for k, v in d.items()}, one item -/
theorem en_copy {vs : List Nat} {xs : List V} {t : Addr} (hd : H d = some (.dK [(k, .ref t)])) (ht : H t = some (.lst xs)) (hdt : t ≠ d) (he : ∀ H', Ev te σ H' (.ref d)) (hi : ((((wipe σ vs).set i (some (kV k))).set j (some (.ref t))))[i]? = some (some (kV k))) (hj : ((((wipe σ vs).set i (some (kV k))).set j (some (.ref t))))[j]? = some (some (.ref t)))
    (hw : wipe (((wipe σ vs).set i (some (kV k))).set j (some (.ref t))) vs = wipe σ vs) (H1 : Hp) (e1 : Ex H H1) (Q : VK) (hQ : ∀ p q H2, H1 p = none → H1 q = none → p ≠ q → Ex H1 H2 → H2 p = some (.dK [(k, .ref q)]) → H2 q = some (.lst xs) → Q (.ref p) H2) :
    tLockE (tDc (iItems te) (gTup K 2 (gCons (gName i) (gCons (gName j) gNil))) tYes (tVar i) (tCB (rListS K) (tCons (tVar j) tNil)) vs) σ H1 Q := by
  have hd1 := e1 _ _ hd
  refine ⟨d, _, hd1, trivial, fun od => ?_⟩
  refine he _ _ (Ex.refl _) _ fun H3 e3 => ⟨d, od, _, rfl, e3 _ _ upd_same, fun p hp => ?_⟩
  have hpd : p ≠ d := fun z => by rw [z, e3 _ _ upd_same] at hp; cases hp
  have hp1 : H1 p = none := by
    cases z : H1 p with
    | none => rfl
    | some o => rw [e3 p o (by rw [upd_ne hpd]; exact z)] at hp; cases hp
  refine ⟨fun n m H' => (n = 0 ∧ m = 1 ∧ H' = upd H3 p (.dK [])) ∨ (n = 1 ∧ m = 0 ∧ ∃ q, H1 q = none ∧ p ≠ q ∧ q ≠ d ∧ Ex (upd H1 d (.frz od (.dK [(k, .ref t)]))) H' ∧ H' p = some (.dK [(k, .ref q)]) ∧ H' q = some (.lst xs)), ⟨1, .inl ⟨rfl, rfl, rfl⟩⟩, ?_⟩
  have ex0 : Ex (upd H1 d (.frz od (.dK [(k, .ref t)]))) (upd H3 p (.dK [])) := e3.trans (Ex.new hp)
  rintro n m H' (⟨rfl, rfl, rfl⟩ | ⟨rfl, rfl, q, hq, hpq, hqd, e, h1, h2⟩)
  · refine .inr ⟨⟨ex0 _ _ upd_same, by simp⟩, fun H' => ∃ q, H1 q = none ∧ p ≠ q ∧ q ≠ d ∧ Ex (upd H1 d (.frz od (.dK [(k, .ref t)]))) H' ∧ H' p = some (.dK [(k, .ref q)]) ∧ H' q = some (.lst xs), fun H' h => ⟨0, by omega, .inr ⟨rfl, rfl, h⟩⟩, fun y H4 hy => ?_⟩
    obtain ⟨T, k', v', hk, rfl, hT, rfl⟩ := hy
    have hk2 : (k, V.ref t) = (k', v') := by simpa using hk
    cases hk2
    have new : Ex (upd H3 p (.dK [])) (upd (upd H3 p (.dK [])) T (.tup [kV k, .ref t])) := Ex.new hT
    refine ⟨T, _, rfl, st_of upd_same, rfl, _, _, rfl, _, _, rfl, rfl, hw, ⟨_, hi, _, hj, ?_⟩⟩
    generalize hH5 : upd (upd H3 p (.dK [])) T (.tup [kV k, .ref t]) = H5 at new
    have ht5 : SqL K H5 t xs := sq_of ((ex0.trans new) t _ (by rw [upd_ne hdt]; exact e1 _ _ ht))
    refine ⟨t, xs, rfl, .inl ht5, fun q hq => ?_⟩
    have hp5 : H5 p = some (.dK []) := new _ _ upd_same
    have hqp : q ≠ p := fun z => by rw [z, hp5] at hq; cases hq
    have hd5 : H5 d = some (.frz od (.dK [(k, .ref t)])) := (ex0.trans new) _ _ upd_same
    have hqd : q ≠ d := fun z => by rw [z, hd5] at hq; cases hq
    refine ⟨[], k, rfl, by rw [upd_ne (Ne.symm hqp)]; exact hp5, by rw [sizeLine_eq]; decide, q, ?_, Ne.symm hqp, hqd, ?_, by rw [upd_same]; rfl, by rw [upd_ne hqp, upd_same]⟩
    · cases z : H1 q with
      | none => rfl
      | some o => rw [(ex0.trans new) q o (by rw [upd_ne hqd]; exact z)] at hq; cases hq
    · intro b o hb
      have h5 := (ex0.trans new) b o hb
      have n1 : b ≠ q := fun z => by rw [z, hq] at h5; cases h5
      have n2 : b ≠ p := fun z => by
        subst z
        rw [upd_ne hpd, hp1] at hb; cases hb
      rw [upd_ne n2, upd_ne n1]; exact h5
  · have l := lock_ex hd1 e
    refine .inl ⟨⟨l.1, by simp⟩, l.1, hQ p q _ hp1 hq hpq l.2 (by rw [upd_ne hpd]; exact h1) (by rw [upd_ne hqd]; exact h2)⟩
theorem ev_din {ty td : TE} {a : Addr} {kvs : List (Key × V)} (hy : Ev ty σ H (kV k)) (hd : Ev td σ H (.ref a)) (h : H a = some (.dK kvs)) : Ev (tDIn ty td) σ H (.bl (valV kvs k).isSome) := fun H1 e Q q => hy H1 e _ fun H2 e2 => hd H2 (e.trans e2) _ fun H3 e3 => ⟨a, _, rfl, .k (((e.trans e2).trans e3) _ _ h), q H3 (e2.trans e3)⟩
theorem ev_dnotin {ty td : TE} {a : Addr} {kvs : List (Key × V)} (hy : Ev ty σ H (kV k)) (hd : Ev td σ H (.ref a)) (h : H a = some (.dK kvs)) : Ev (tDNotIn ty td) σ H (.bl (!(valV kvs k).isSome)) := fun H1 e Q q => hy H1 e _ fun H2 e2 => hd H2 (e.trans e2) _ fun H3 e3 => ⟨a, _, rfl, .k (((e.trans e2).trans e3) _ _ h), q H3 (e2.trans e3)⟩
theorem ev_dget {ty td : TE} {a : Addr} {kvs : List (Key × V)} (hd : Ev td σ H (.ref a)) (hy : Ev ty σ H (kV k)) (h : H a = some (.dK kvs)) (hv : valV kvs k = some v) : Ev (tDGet td ty) σ H v := fun H1 e Q q => hd H1 e _ fun H2 e2 => hy H2 (e.trans e2) _ fun H3 e3 => ⟨a, v, rfl, by rw [← hv]; exact .k (((e.trans e2).trans e3) _ _ h), q H3 (e2.trans e3)⟩
theorem valV_one : valV [(k, v)] k = some v := by simp [valV]
theorem valV_other {k' : Key} (h : k ≠ k') : valV [(k, v)] k' = none := by simp [valV, h]
/-- {**d, k: v} -/
theorem evp_dispS {td : TE} {a : Addr} {kvs : List (Key × V)} (hd : Ev td σ H (.ref a)) (h : H a = some (.dK kvs)) (hz : kvs.length ≤ 1000) (hk : ∀ H1, Ex H H1 → Ev tk σ H1 (kV k)) {xs : List V} (hv : EvL tv σ H xs) : EvP (tDispS td tk tv) σ H fun v _ => ∃ p, v = .ref p := fun H1 e Q q d hd0 => by
  have e1 : Ex H (upd H1 d (.dK [])) := e.trans (Ex.new hd0)
  refine hd _ e1 _ fun H2 e2 => ⟨a, kvs, rfl, e2 _ _ upd_same, .inl ((e1.trans e2) _ _ h), (fun z => by rw [z, e _ _ h] at hd0; cases hd0), hz, fun p hp => ?_⟩
  have hpd : p ≠ d := fun z => by rw [z, e2 _ _ upd_same] at hp; cases hp
  have exd : ∀ {X : Hp} {o : HO}, Ex H1 X → Ex H1 (upd X d o) := fun f b o hb => by
    have n : b ≠ d := fun z => by rw [z, hd0] at hb; cases hb
    rw [upd_ne n]; exact f b o hb
  have e3 : Ex H1 (upd (upd H2 d (.dK (mergeK [] kvs))) p (.dK [])) := (exd ((Ex.new hd0).trans e2)).trans (Ex.new (by rw [upd_ne hpd]; exact hp))
  generalize hH4 : upd (upd H2 d (.dK (mergeK [] kvs))) p (.dK []) = H4 at e3
  have hp4 : H4 p = some (.dK []) := by rw [← hH4, upd_same]
  have hd4 : H4 d = some (.dK (mergeK [] kvs)) := by rw [← hH4, upd_ne (Ne.symm hpd), upd_same]
  have hp1 : H1 p = none := by
    cases z : H1 p with
    | none => rfl
    | some o => rw [((Ex.new hd0).trans e2) p o z] at hp; cases hp
  refine hk H4 (e.trans e3) H4 (Ex.refl _) _ fun H5 e5 => hv H5 ((e.trans e3).trans e5) _ fun r H6 hr e6 h6 => ?_
  refine ⟨k, .ref r, rfl, (e5.trans e6) _ _ hp4, (e5.trans e6) _ _ hd4, q _ _ (exd fun b o hb => ?_) ⟨d, rfl⟩⟩
  have n : b ≠ p := fun z => by rw [z, hp1] at hb; cases hb
  rw [upd_ne n]; exact (e3.trans (e5.trans e6)) b o hb
/-- for low, high in facts: no pairs -/
theorem ei_own0 {CF : Addr} {a : Addr} {l : PySem.Str} (h : Ev te σ H (.ref a)) (hF : FAt CF H a l) : EvI (iOwnT K CF "_rows" te) σ H [] := fun H1 e R q => h H1 e _ fun H2 e2 => by
  obtain ⟨dx, r, o, h1, h2⟩ := hF
  exact ⟨a, dx, _, r, [], rfl, (e.trans e2) _ _ h1, rfl, ex_t (e.trans e2) (st_of h2), q _ H2 H e2 (Ex.refl H) (e.trans e2) (fun _ n _ => n) (goes_t fun H3 e3 => ex_t e3 (st_of h2))⟩
theorem ev_prop {C : Addr} {sp : Sp} {dx : Addr} {fs : List (PySem.Str × V)} {a : Addr} {E : XK} (h : Ev te σ H (.ref a)) (ha : H a = some (.ins C dx fs)) (hs : SpV sp [.ref a] H v) : Ev (tProp C sp [] E te) σ H v := fun H1 e Q q => h H1 e _ fun H2 e2 => ⟨a, dx, fs, rfl, (e.trans e2) _ _ ha, hs H2 (e.trans e2) _ (fun H3 e3 => q H3 (e2.trans e3)) E⟩
theorem el_meth {C : Addr} {m : PySem.Str} {sp : Sp} {dx : Addr} {fs : List (PySem.Str × V)} {a : Addr} {E : XK} {vs xs : List V} {t : TA} (h : Ev te σ H (.ref a)) (ha : H a = some (.ins C dx fs)) (hm : fs.lookup m = none) (hvs : EvA t σ H vs) (hs : SpL sp (.ref a :: vs) H xs) : EvL (tMeth C m sp [] E te t) σ H xs := fun H1 e Q q =>
  h H1 e _ fun H2 e2 => ⟨a, dx, fs, rfl, (e.trans e2) _ _ ha, hm, hvs H2 (e.trans e2) _ fun H3 e3 => by
    rw [List.append_nil]
    exact hs H3 ((e.trans e2).trans e3) _ (fun p H4 hp e4 h4 => q p H4 (fresh_back (e2.trans e3) hp) ((e2.trans e3).trans e4) h4) E⟩
end
section
variable {P : Program} {w : World} {K : PySem.W.Frag} {mg : PySem.Str → Option Value} {base : Heap} {f f1 f2 f3 f4 CF CW : Addr} {fd fd1 fd2 fd3 fd4 : FuncData}
/-! ### check_places, _check_tables -/
abbrev s_checkP : Stmt := top 29
abbrev nCheckP : List PySem.Str := ["places", "steps", "point", "stand"]
def spCheckP : Sp := fun vs H Q _ => ∃ (a : Addr) (n : Int), vs = [.ref a, .int n] ∧ H a = some (.dK []) ∧ RetV .non H Q
theorem scCheckP : FnScope nCheckP ["places", "steps"] (defScope s_checkP) := ⟨rfl, rfl, rfl, by decide +kernel, rfl, by decide +kernel, by decide +kernel⟩
theorem ok_checkP (D : Dat K mg "check_places" s_checkP ["places", "steps"] f fd) : FnOk P w K mg base (L2.CX P w) 1 f fd ["places", "steps"] spCheckP := by
  refine D.F.okX scCheckP (fun vs H Q E h => ?_) (fun cdv A outer s H vs Q E hr h => ?_)
  · obtain ⟨a, n, rfl, _⟩ := h
    rfl
  · obtain ⟨a, n, rfl, ha, k⟩ := h
    refine ⟨_, pss_one (ps_lock (ps_for (passes_of rfl) rfl (pi_items (pv 0)) pg_no pss_no)), ?_⟩
    exact s_items0 ha (fun _ => ev_var rfl) fun H2 e2 => k H2 e2
abbrev s_checkB : Stmt := top 48
abbrev nCheckB : List PySem.Str := ["tables", "steps", "dial", "table"]
def spCheckB : Sp := fun vs H Q _ => ∃ (a t : Addr) (l : PySem.Str) (T : List Nat), vs = [.ref a, .int (T.length : Int)] ∧ H a = some (.dK [(.inr l, .ref t)]) ∧ H t = some (.lst (nv T)) ∧ One l ∧ Ris T ∧ T.length ≤ 1000 ∧ RetV .non H Q
theorem scCheckB : FnScope nCheckB ["tables", "steps"] (defScope s_checkB) := ⟨rfl, rfl, rfl, by decide +kernel, rfl, by decide +kernel, by decide +kernel⟩
theorem sv_ris {a : Addr} {T : List Nat} {H : Hp} (h : SqL K H a (nv T)) (hz : T.length ≤ 1000) (R : Ris T) : SpV (spRis K) [.ref a] H (.bl true) := fun H1 e Q q E => ⟨a, T, rfl, ex_l e h, hz, R, fun H2 e2 => q H2 e2⟩
theorem ok_checkB (W : Wd mg) (D : Dat K mg "_check_tables" s_checkB ["tables", "steps"] f fd) (D1 : Dat K mg "is_small" s_is_small ["text"] f1 fd1) (G1 : FnOk P w K mg base (L2.CX P w) 1 f1 fd1 ["text"] (spB (inS smallsS)))
    (D2 : Dat K mg "rising" s_rising ["table"] f2 fd2) (G2 : FnOk P w K mg base (L2.CX P w) 1 f2 fd2 ["table"] (spRis K)) : FnOk P w K mg base (L2.CX P w) 2 f fd ["tables", "steps"] spCheckB := by
  refine D.F.okX scCheckB (fun vs H Q E h => ?_) (fun cdv A outer s H vs Q E hr h => ?_)
  · obtain ⟨a, t, l, T, rfl, _⟩ := h
    rfl
  · obtain ⟨a, t, l, T, rfl, ha, ht, hl, R, hz, k⟩ := h
    refine ⟨_, pss_one (ps_lock (ps_for (passes_of rfl) rfl (pi_items (pv 0)) (pg_tup rfl (pgs_cons (pg_name (i := 2) scCheckB.nd rfl (Or.inl rfl)) (pgs_cons (pg_name (i := 3) scCheckB.nd rfl (Or.inl rfl)) pgs_nil)))
      (pss_one (ps_if (PW.pt (pw_or (pt_not (pt_val (pe_call G1 hr rfl D1.g D1.k D1.b .nil pas0 (pa_cons (pv 2) pa_nil)))) (pw_or (pt_cmpR op_ne (pe_callB call_len_seq (by rfl) W.len PySem.boot_len (pa_cons (pv 3) pa_nil)) (pv 1) (nomark _)) (pw_or1 (pt_not (pt_val (pe_call G2 hr rfl D2.g D2.k D2.b .nil pas0 (pa_cons (pv 3) pa_nil)))))))) pss_no pss_nil)))), ?_⟩
    have h1 := hl.len
    refine s_items1 (k := .inr l) ha (fun _ => ev_var rfl) (fun od => ?_) fun H2 e2 => k H2 e2
    have hta : t ≠ a := fun z => by rw [z, ha] at ht; cases ht
    have ht2 : ∀ o, SqL K (upd H a o) t (nv T) := fun o => sq_of (by rw [upd_ne hta]; exact ht)
    refine et_is (et_or (et_not (et_B (ev_call (z := .bl true) (vs := [.str l]) (ea_cons (ev_var rfl) ea_nil) (by rw [← show inS smallsS l = true from hl]; exact sv_B (by omega))))) fun _ => et_or (ev_neI (ev_lenN' (ns := T) (ev_var rfl) (ht2 _)) (ev_var rfl)) fun _ => et_not (et_B (ev_call (z := .bl true) (vs := [.ref t]) (ea_cons (ev_var rfl) ea_nil) (sv_ris (ht2 _) hz R)))) ?_
    simp
end
end Z
end
/-! Z8 -/
set_option linter.all false
set_option maxRecDepth 100000
set_option maxHeartbeats 4000000
noncomputable section
namespace Z
open PySem PySem.Spec PyProof.Rows L2 PySem.Froz Evl TS

section
variable {σ : L2.St} {H : Hp} {te : TE} {D : Ends} {tz : TS} {i : Nat} {R : V → Hp → Prop}
theorem s_asgP (h : EvP te σ H R) (k : ∀ v H1, Ex H H1 → R v H1 → D.nx (σ.set i (some v)) H1) : tAsg te (gName i) D σ H := h H (Ex.refl H) _ fun v H1 e r => k v H1 e r
theorem q_asgP (h : EvP te σ H R) (k : ∀ v H1, Ex H H1 → R v H1 → tz D (σ.set i (some v)) H1) : tSeq (tAsg te (gName i)) tz D σ H := s_asgP (D := { D with nx := tz D }) h k
theorem s_retP (h : EvP te σ H R) (k : ∀ v H1, Ex H H1 → R v H1 → D.rt v H1) : tRet te D σ H := h H (Ex.refl H) _ fun v H1 e r => k v H1 e r
end
/-! ### the class World -/
structure WCls (K : PySem.W.Frag) (mg : PySem.Str → Option Value) (CW : Addr) : Prop where
  c : Cls K CW
  n1 : NoAttr K CW "_facts"
  n2 : NoAttr K CW "_steps"
  n3 : NoAttr K CW "_places"
  n4 : NoAttr K CW "_tables"
  n5 : NoAttr K CW "_backs"
  g : mg "World" = some (.ref CW)
  most : ∃ mc t, ClX.CRead K CW mc ∧ ClX.CVal K CW mc "MOST" (.int 60) (.int 60 t)
/-- the methods and the property of Facts that are used -/
structure FMet (K : PySem.W.Frag) (CF fD fP pP fI : Addr) : Prop where
  d : Meth K CF "dial_list" fD
  p : PropOf K CF "paired" pP fP
  i : ItOwn K CF fI
section
variable {P : Program} {w : World} {K : PySem.W.Frag} {mg : PySem.Str → Option Value} {base : Heap} {f f1 f2 f3 f4 f5 CF CW fD fP pP fI : Addr} {fd fd1 fd2 fd3 fd4 fd5 fdD fdP : FuncData}
abbrev s_checkK : Stmt := top 49
abbrev nCheckK : List PySem.Str := ["tables", "steps", "facts", "dial", "shown", "low", "high", "at"]
def spCheckK (CF : Addr) : Sp := fun vs H Q _ => ∃ (a t fa : Addr) (l : PySem.Str) (T : List Nat), vs = [.ref a, .int (T.length : Int), .ref fa] ∧ H a = some (.dK [(.inr l, .ref t)]) ∧ SqL K H t (nv T) ∧ One l ∧ Ris T ∧ T.getD 0 0 = 0 ∧ T.length ≤ 1000 ∧ FAt CF H fa l ∧ RetV .non H Q
theorem scCheckK : FnScope nCheckK ["tables", "steps", "facts"] (defScope s_checkK) := ⟨rfl, rfl, rfl, by decide +kernel, rfl, by decide +kernel, by decide +kernel⟩
theorem sl_still {n : Nat} {H : Hp} (h : n ≤ 1000) : SpL spStill [.int (n : Int)] H (nv (List.range n)) := fun H1 e Q q E => ⟨n, rfl, h, fun p H2 hp e2 h2 => q p H2 hp e2 h2⟩
theorem sl_FD {CF a : Addr} {l : PySem.Str} {H : Hp} (h : FAt CF H a l) (hl : One l) : SpL (spFD CF) [.ref a] H [.str l] := fun H1 e Q q E => ⟨a, l, rfl, h.mono e, hl, fun p H2 hp e2 h2 => q p H2 hp e2 h2⟩
theorem sv_paired {CF a : Addr} {l : PySem.Str} {H : Hp} (h : FAt CF H a l) : SpV (spPaired CF) [.ref a] H (.str l) := fun H1 e Q q E => ⟨a, l, rfl, h.mono e, fun H2 e2 => q H2 e2⟩
theorem ok_checkK (W : Wd mg) (FC : FCls K mg CF) (M : FMet K CF fD fP pP fI) (D : Dat K mg "_check_kept" s_checkK ["tables", "steps", "facts"] f fd) (D1 : Dat K mg "still_table" s_still ["steps"] f1 fd1) (G1 : FnOk P w K mg base (L2.CX P w) 1 f1 fd1 ["steps"] spStill)
    (DD : DatM K "dial_list" "Facts.dial_list" s_fdials ["self"] fD fdD) (GD : FnOk P w K mg base (L2.CX P w) 1 fD fdD ["self"] (spFD CF)) (DP : DatM K "paired" "Facts.paired" s_paired ["self"] fP fdP) (GP : FnOk P w K mg base (L2.CX P w) 1 fP fdP ["self"] (spPaired CF)) (GI : FnIt P w K mg base 1 fI CF "_rows") :
    FnOk P w K mg base (L2.CX P w) 3 f fd ["tables", "steps", "facts"] (spCheckK (K := K) CF) := by
  refine D.F.okX scCheckK (fun vs H Q E h => ?_) (fun cdv A outer s H vs Q E hr h => ?_)
  · obtain ⟨a, t, fa, l, T, rfl, _⟩ := h
    rfl
  · obtain ⟨a, t, fa, l, T, rfl, ha, ht, hl, R, h0, hz, hF, k⟩ := h
    have hu := hr.units
    have hu1 : (A.deeper (envOfC "_check_kept" (defScope s_checkK) s.heap.objs.size f cdv)).units + 1 < cLine := by omega
    have hr1 : Room 1 _ := hr.mono (by decide)
    refine ⟨_, pss_cons (ps_for (passes_of rfl) rfl (pi_list (pe_meth0 (pv 2) FC.c M.d GD hr1 DD.b .nil (pas0 (X := cxOf (L2.CX P w) P w K mg base nCheckK "_check_kept" (defScope s_checkK) f cdv A outer s H E)))) (pg_name (i := 3) scCheckK.nd rfl (Or.inl rfl)) (pss_one (ps_if (pt_cmp (pc_dnotin hu1 (pv 3) (pv 0))) pss_no pss_nil)))
      (pss_cons (ps_set (i := 4) scCheckK.nd rfl (Or.inl rfl) (pe_dispS (pv 0) pe_str (pe_call G1 hr1 rfl D1.g D1.k D1.b .nil pas0 (pa_cons (pv 1) pa_nil))))
      (pss_cons (ps_for (passes_of rfl) rfl (pi_ownT (pv 2) M.i GI hr1) pg_no pss_no)
      (pss_one (ps_for (passes_of rfl) rfl (pi_str (pe_prop (pv 2) FC.c M.p GP hr DP.b .nil (pas0 (X := (cxOf (L2.CX P w) P w K mg base nCheckK "_check_kept" (defScope s_checkK) f cdv A outer s H E).nox)) rfl)) (pg_name (i := 3) scCheckK.nd rfl (Or.inl rfl))
        (pss_one (ps_if (pt_cmpR op_ne (pe_ix ix_list (pe_dget hu1 (pv 0) (pv 3) (fun _ _ => rfl)) pe_int (fun _ _ => rfl)) pe_int (nomark _)) pss_no pss_nil)))))), ?_⟩
    have h1 := hl.len
    obtain ⟨dxF, rF, oF, hFa, hFr⟩ := hF
    have hF : FAt CF H fa l := ⟨dxF, rF, oF, hFa, hFr⟩
    have one : ∀ {i : Nat} {x : V}, [V.str l][i]? = some x → x = .str l := fun {i x} hx => by
      match i, hx with
      | 0, hx => simpa using hx.symm
    refine q_forI (H := H) (ei_new (el_meth (vs := []) (ev_var rfl) hFa rfl ea_nil (sl_FD hF hl))) (Ex.refl H) (fun _ _ σ' H' => (∃ v, σ' = [some (.ref a), some (.int (T.length : Int)), some (.ref fa), v, none, none, none, none]) ∧ Ex H H') (fun _ H2 _ e2 _ => ⟨⟨none, rfl⟩, e2⟩) ?_ ?_
    · rintro G i x σ' H' eG eG' hx ⟨⟨v, rfl⟩, e⟩
      obtain rfl := one hx
      refine s_when (b := false) (et_is (et_B (ev_dnotin (k := .inr l) (ev_var rfl) (ev_var rfl) (e _ _ ha))) (by rw [valV_one]; rfl)) (fun h => nomatch h) fun _ H2 e2 => ⟨eG'.trans e2, ⟨_, rfl⟩, e.trans e2⟩
    · rintro G σ' H' eG eG' ⟨⟨v, rfl⟩, e⟩
      refine q_asgP (evp_dispS (k := .inr "1") (ev_var rfl) (e _ _ ha) (by simp) (fun _ _ => ev_c) (el_call (ea_cons (ev_var rfl) ea_nil) (sl_still hz))) fun sv H2 e2 _ => ?_
      refine q_forNone (ei_own0 (ev_var rfl) (hF.mono (e.trans e2))) (Ex.refl _) fun H3 e3 => ?_
      have e03 := (e.trans e2).trans e3
      refine s_forI (H := H3) (ei_str (ev_prop (ev_var rfl) (e03 _ _ hFa) (sv_paired (hF.mono e03)))) (Ex.refl H3) (fun _ _ σ' H' => (∃ v, σ' = [some (.ref a), some (.int (T.length : Int)), some (.ref fa), v, some sv, none, none, none]) ∧ Ex H3 H') (fun _ H4 _ e4 _ => ⟨⟨_, rfl⟩, e4⟩) ?_ ?_
      · rintro G2 i x σ' H' eG2 eG2' hx ⟨⟨v2, rfl⟩, e4⟩
        rw [hl.signs] at hx
        obtain rfl := one hx
        have e5 := e03.trans e4
        refine s_when (b := false) (et_is (ev_neI (ev_atN (ns := T) (k := 0) (ev_dget (k := .inr l) (ev_var rfl) (ev_var rfl) (e5 _ _ ha) valV_one) ev_c (ex_l e5 ht) R.pos) ev_c) (by rw [h0]; rfl)) (fun h => nomatch h) fun _ H5 e6 => ⟨eG2'.trans e6, ⟨_, rfl⟩, e4.trans e6⟩
      · rintro G2 σ' H' eG2 eG2' ⟨_, e4⟩
        exact k H' (e03.trans e4)
end
end Z
end
/-! Z9 -/
set_option linter.all false
set_option maxRecDepth 100000
set_option maxHeartbeats 4000000
noncomputable section
namespace Z
open PySem PySem.Spec PyProof.Rows L2 PySem.Froz Evl TS

abbrev fW (fa : Addr) (n : Nat) (pl tb bk : Addr) : List (PySem.Str × V) := [("_facts", .ref fa), ("_steps", .int (n : Int)), ("_places", .ref pl), ("_tables", .ref tb), ("_backs", .ref bk)]
/-- the world at a: the dial l, its table T -/
def WAt (CW : Addr) (H : Hp) (a : Addr) (l : PySem.Str) (T : List Nat) : Prop := ∃ dx fa pl tb bk t b, H a = some (.ins CW dx (fW fa T.length pl tb bk)) ∧ H tb = some (.dK [(.inr l, .ref t)]) ∧ H t = some (.lst (nv T)) ∧ H bk = some (.dK [(.inr (Txt.upper l), .ref b)]) ∧ H b = some (.lst (nv (backT T)))
theorem WAt.mono {CW : Addr} {H H' : Hp} {a : Addr} {l : PySem.Str} {T : List Nat} (e : Ex H H') (h : WAt CW H a l T) : WAt CW H' a l T := let ⟨dx, fa, pl, tb, bk, t, b, h1, h2, h3, h4, h5⟩ := h; ⟨dx, fa, pl, tb, bk, t, b, e _ _ h1, e _ _ h2, e _ _ h3, e _ _ h4, e _ _ h5⟩
/-- a grounded table -/
structure Grd (T : List Nat) : Prop where
  ris : Ris T
  zero : T.getD 0 0 = 0
  len : T.length ≤ 60
section
variable {P : Program} {w : World} {K : PySem.W.Frag} {mg : PySem.Str → Option Value} {base : Heap} {f f1 f2 f3 f4 f5 f6 CF CW fD fP pP fI : Addr} {fd fd1 fd2 fd3 fd4 fd5 fd6 fdD fdP : FuncData}
abbrev c_world : Stmt := top 53
abbrev s_winit : Stmt := inClass c_world 1
abbrev nWI : List PySem.Str := ["self", "steps", "places", "tables", "facts", "dial", "table"]
abbrev pWI : List PySem.Str := ["self", "steps", "places", "tables", "facts"]
def spWI (CF CW : Addr) : Sp := fun vs H Q _ => ∃ (a dx pl tb fa t : Addr) (l : PySem.Str) (T : List Nat), vs = [.ref a, .int (T.length : Int), .ref pl, .ref tb, .ref fa] ∧ H a = some (.ins CW dx []) ∧ H pl = some (.dK []) ∧ H tb = some (.dK [(.inr l, .ref t)]) ∧ H t = some (.lst (nv T)) ∧ FAt CF H fa l ∧ One l ∧ Grd T ∧
  ∀ H2, ExB a H H2 → WAt CW H2 a l T → Q .non H2
theorem scWI : FnScope nWI pWI (defScope s_winit) := ⟨rfl, rfl, rfl, by decide +kernel, rfl, by decide +kernel, by decide +kernel⟩
theorem sl_back {a : Addr} {T : List Nat} {H : Hp} (h : SqL K H a (nv T)) (g : Grd T) : SpL (spBack K) [.ref a] H (nv (backT T)) := fun H1 e Q q E => ⟨a, T, rfl, ex_l e h, by have := g.len; omega, g.ris.pos, g.zero, fun p H2 hp e2 h2 => q p H2 hp e2 h2⟩
/-- a new thing that names another new one -/
def EvN2 (te : TE) (σ : L2.St) (H : Hp) (mk : Addr → HO) (o : HO) : Prop := ∀ H1, Ex H H1 → ∀ Q : VK, (∀ p q H2, H1 p = none → H1 q = none → p ≠ q → Ex H1 H2 → H2 p = some (mk q) → H2 q = some o → Q (.ref p) H2) → te σ H1 Q
theorem evp_N2 {te : TE} {σ : L2.St} {H : Hp} {a : Addr} {mk : Addr → HO} {o u : HO} (h : EvN2 te σ H mk o) (ha : H a = some u) : EvP te σ H fun v H' => ∃ p q, v = .ref p ∧ H' p = some (mk q) ∧ H' q = some o ∧ p ≠ a ∧ q ≠ a := fun H1 e Q k => h H1 e Q fun p q H2 hp hq _ e2 h2 h3 => k _ H2 e2 ⟨p, q, rfl, h2, h3, (fun z => by rw [z, e _ _ ha] at hp; cases hp), (fun z => by rw [z, e _ _ ha] at hq; cases hq)⟩
theorem stays_N2 {a : Addr} {mk : Addr → HO} {o : HO} : ∀ (v : V) (H1 H2 : Hp), Ex H1 H2 → (∃ p q, v = .ref p ∧ H1 p = some (mk q) ∧ H1 q = some o ∧ p ≠ a ∧ q ≠ a) → ∃ p q, v = .ref p ∧ H2 p = some (mk q) ∧ H2 q = some o ∧ p ≠ a ∧ q ≠ a := fun _ _ _ e ⟨p, q, h1, h2, h3, h4⟩ => ⟨p, q, h1, e _ _ h2, e _ _ h3, h4⟩
/-- {letter.upper(): back_table(tables[letter]) for letter in ..}, one letter -/
theorem en_backs {σ : L2.St} {H : Hp} {wi : TI} {i : Nat} {tk tv : TE} {vs : List Nat} {l : PySem.Str} {xs : List V} (h : EvI wi σ H [.str l]) (hw : wipe ((wipe σ vs).set i (some (.str l))) vs = wipe σ vs) (hk : ∀ H1, Ex H H1 → Ev tk ((wipe σ vs).set i (some (.str l))) H1 (.str (Txt.upper l))) (hv : ∀ H1, Ex H H1 → EvL tv ((wipe σ vs).set i (some (.str l))) H1 xs)
    (H1 : Hp) (e1 : Ex H H1) (Q : VK) (hQ : ∀ p q H2, H1 p = none → H1 q = none → p ≠ q → Ex H1 H2 → H2 p = some (.dK [(.inr (Txt.upper l), .ref q)]) → H2 q = some (.lst xs) → Q (.ref p) H2) : tDc wi (gName i) tYes tk tv vs σ H1 Q := h H1 e1 _ fun J H2 G e2 eG eG2 nG g p hp => by
  have hp1 : H1 p = none := fresh_back e2 hp
  refine ⟨fun n m H' => (n = 0 ∧ m = 1 ∧ H' = upd H2 p (.dK [])) ∨ (n = 1 ∧ m = 0 ∧ ∃ q, H1 q = none ∧ p ≠ q ∧ Ex H2 H' ∧ H' p = some (.dK [(.inr (Txt.upper l), .ref q)]) ∧ H' q = some (.lst xs)), ⟨1, .inl ⟨rfl, rfl, rfl⟩⟩, ?_⟩
  have ex0 : Ex H2 (upd H2 p (.dK [])) := Ex.new hp
  rintro n m H' (⟨rfl, rfl, rfl⟩ | ⟨rfl, rfl, q, hq, hpq, e, h1, h2⟩)
  · refine .inr ⟨g.go 0 (.str l) _ rfl (eG2.trans ex0), fun H' => ∃ q, H1 q = none ∧ p ≠ q ∧ Ex H2 H' ∧ H' p = some (.dK [(.inr (Txt.upper l), .ref q)]) ∧ H' q = some (.lst xs), fun H' h => ⟨0, by omega, .inr ⟨rfl, rfl, h⟩⟩, fun y H4 hy => ?_⟩
    obtain ⟨rfl, rfl⟩ := g.yld 0 (.str l) _ y H4 rfl (eG2.trans ex0) hy
    refine ⟨hw, ?_⟩
    refine hk _ ((e1.trans e2).trans ex0) _ (Ex.refl _) _ fun H5 e5 => ?_
    refine hv _ (((e1.trans e2).trans ex0).trans e5) _ (Ex.refl _) _ fun q H6 hq e6 h6 => ?_
    have hp6 : H6 p = some (.dK []) := (e5.trans e6) _ _ upd_same
    have hqp : q ≠ p := fun z => by rw [z, e5 _ _ upd_same] at hq; cases hq
    refine ⟨[], .inr (Txt.upper l), rfl, hp6, by rw [sizeLine_eq]; decide, q, fresh_back (e2.trans (ex0.trans e5)) hq, Ne.symm hqp, fun b o hb => ?_, by rw [upd_same]; rfl, by rw [upd_ne hqp]; exact h6⟩
    rw [upd_ne (fun z => by rw [z, hp] at hb; cases hb)]
    exact (ex0.trans (e5.trans e6)) b o hb
  · exact .inl ⟨g.stop 1 _ (Nat.le_refl _) (eG2.trans e), hQ p q _ hp1 hq hpq (e2.trans e) h1 h2⟩
theorem ev_upper {σ : L2.St} {H : Hp} {te : TE} {x : PySem.Str} (h : Ev te σ H (.str x)) (hz : x.length ≤ 1000) : Ev (tM0 (fun x xs H Q => ∃ a, x = .str a ∧ xs = [] ∧ a.length ≤ 5592405 ∧ Q (.str (Txt.upper a)) H) te) σ H (.str (Txt.upper x)) := fun H1 e Q q => h H1 e _ fun H2 e2 => ⟨⟨x, rfl⟩, x, rfl, rfl, by omega, q H2 e2⟩
theorem ok_winit (W : Wd mg) (FC : FCls K mg CF) (WC : WCls K mg CW) (M : FMet K CF fD fP pP fI) (D : DatD K "__init__" "World.__init__" s_winit [.non] [] pWI f fd)
    (D1 : Dat K mg "check_steps" s_check_steps ["many", "most"] f1 fd1) (G1 : FnOk P w K mg base (L2.CX P w) 1 f1 fd1 ["many", "most"] spSteps) (D2 : Dat K mg "check_places" s_checkP ["places", "steps"] f2 fd2) (G2 : FnOk P w K mg base (L2.CX P w) 1 f2 fd2 ["places", "steps"] spCheckP)
    (D3 : Dat K mg "_check_tables" s_checkB ["tables", "steps"] f3 fd3) (G3 : FnOk P w K mg base (L2.CX P w) 2 f3 fd3 ["tables", "steps"] spCheckB) (D4 : Dat K mg "told_facts" s_told ["facts"] f4 fd4) (G4 : FnOk P w K mg base (L2.CX P w) 1 f4 fd4 ["facts"] spTold)
    (D5 : Dat K mg "_check_kept" s_checkK ["tables", "steps", "facts"] f5 fd5) (G5 : FnOk P w K mg base (L2.CX P w) 3 f5 fd5 ["tables", "steps", "facts"] (spCheckK (K := K) CF)) (D6 : Dat K mg "back_table" s_back ["table"] f6 fd6) (G6 : FnOk P w K mg base (L2.CX P w) 2 f6 fd6 ["table"] (spBack K))
    (DP : DatM K "paired" "Facts.paired" s_paired ["self"] fP fdP) (GP : FnOk P w K mg base (L2.CX P w) 1 fP fdP ["self"] (spPaired CF)) :
    FnOk P w K mg base (L2.CX P w) 4 f fd pWI (spWI CF CW) := by
  obtain ⟨mc, tk, cr, cv⟩ := WC.most
  refine D.F.ok scWI (fun vs H Q E h => ?_) (fun cdv A outer s H vs Q E hr h => ?_)
  · obtain ⟨a, dx, pl, tb, fa, t, l, T, rfl, _⟩ := h
    rfl
  · obtain ⟨a, dx, pl, tb, fa, t, l, T, rfl, ha, hpl, htb, ht, hF, hl, g, k⟩ := h
    have hu := hr.units
    have hu1 : (A.deeper (envOfC "World.__init__" (defScope s_winit) s.heap.objs.size f cdv)).units + 1 < cLine := by omega
    have hr1 : Room 1 _ := hr.mono (by decide)
    have hr2 : Room 2 _ := hr.mono (by decide)
    refine ⟨_, pss_cons (ps_expr (pe_call G1 hr1 rfl D1.g D1.k D1.b .nil pas0 (pa_cons (pv 1) (pa_cons (ClX.pe_cval (pe_glob (v := .ref CW) rfl WC.g rfl)) pa_nil))))
      (pss_cons (ps_expr (pe_call G2 hr1 rfl D2.g D2.k D2.b .nil pas0 (pa_cons (pv 2) (pa_cons (pv 1) pa_nil))))
      (pss_cons (ps_expr (pe_call G3 hr2 rfl D3.g D3.k D3.b .nil pas0 (pa_cons (pv 3) (pa_cons (pv 1) pa_nil))))
      (pss_cons (ps_fld (pv 0) (pe_call G4 hr1 rfl D4.g D4.k D4.b .nil pas0 (pa_cons (pv 4) pa_nil)) rfl)
      (pss_cons (ps_expr (pe_call G5 hr rfl D5.g D5.k D5.b .nil pas0 (pa_cons (pv 3) (pa_cons (pv 1) (pa_cons (pe_fld (pv 0) rfl) pa_nil)))))
      (pss_cons (ps_fld (pv 0) (pv 1) rfl)
      (pss_cons (ps_fld (pv 0) (pe_callTy call_dictD rfl W.dict (by decide +kernel) (pa_cons (pv 2) pa_nil)) rfl)
      (pss_cons (ps_fld (pv 0) (pe_lock (pe_dc (own := [("dial", 5), ("table", 6)]) (g := gTup K 2 (gCons (gName 5) (gCons (gName 6) gNil))) (tt := tYes) (tk := tVar 5) (tv := tCB (rListS K) (tCons (tVar 6) tNil)) rfl scWI.nd (pi_items (pv 3)) (blkOk_by (N := nWI) (sc := defScope s_winit) (by decide +kernel))
          (fun _ _ _ _ _ => pg_tup rfl (pgs_cons (pg_name (i := 5) scWI.nd rfl (Or.inl rfl)) (pgs_cons (pg_name (i := 6) scWI.nd rfl (Or.inl rfl)) pgs_nil))) (fun _ _ _ _ _ => pts_nil) (fun _ _ _ _ _ => pv 5) (fun _ _ _ _ _ => pe_callTy call_list_of rfl W.list PyProof.Rows.boot_list (pa_cons (pv 6) pa_nil)))) rfl)
      (pss_one (ps_fld (pv 0) (pe_dc (own := [("dial", 5)]) (g := gName 5) (tt := tYes) (tk := tM0 (fun x xs H Q => ∃ a, x = .str a ∧ xs = [] ∧ a.length ≤ 5592405 ∧ Q (.str (Txt.upper a)) H) (tVar 5)) (tv := tCall (spBack K) [] E0 (tCons (tDGet (tVar 3) (tVar 5)) tNil)) rfl scWI.nd (pi_str (pe_prop (pe_fld (pv 0) rfl) FC.c M.p GP hr2 DP.b .nil (pas0 (X := (cxOf (L2.CX P w) P w K mg base nWI "World.__init__" (defScope s_winit) f cdv A outer s H E).nox)) rfl)) (blkOk_by (N := nWI) (sc := defScope s_winit) (by decide +kernel))
          (fun _ _ _ _ _ => pg_name (i := 5) scWI.nd rfl (Or.inl rfl)) (fun _ _ _ _ _ => pts_nil) (fun _ _ _ _ _ => pe_upper (pv 5)) (fun _ _ _ _ _ => pe_call G6 hr2 rfl D6.g D6.k D6.b .nil pas0 (pa_cons (pe_dget hu1 (pv 3) (pv 5) (fun _ _ => rfl)) pa_nil))) rfl))))))))), ?_⟩
    have hl1 := hl.len
    obtain ⟨dxF, rF, oF, hFa, hFr⟩ := hF
    have nF : fa ≠ a := fun z => by rw [z, ha] at hFa; cases hFa
    have nR : rF ≠ a := fun z => by rw [z, ha] at hFr; cases hFr
    have nP : pl ≠ a := fun z => by rw [z, ha] at hpl; cases hpl
    have nB : tb ≠ a := fun z => by rw [z, ha] at htb; cases htb
    have nT : t ≠ a := fun z => by rw [z, ha] at ht; cases ht
    have ntb : t ≠ tb := fun z => by rw [z, htb] at ht; cases ht
    have fF' : ∀ {X : Hp}, ExB a H X → FAt CF X fa l := fun b => ⟨dxF, rF, oF, b _ _ nF hFa, b _ _ nR hFr⟩
    refine q_drop (ev_call (z := .non) (ea_cons (ev_var rfl) (ea_cons (ev_cval cr cv) ea_nil)) (sv_steps (by have := g.ris.pos; omega) (by have := g.len; omega))) fun H1 e1 => ?_
    refine q_drop (ev_call (z := .non) (vs := [.ref pl, .int (T.length : Int)]) (ea_cons (ev_var rfl) (ea_cons (ev_var rfl) ea_nil)) fun X e Q1 q1 E1 => ⟨pl, _, rfl, (e1.trans e) _ _ hpl, fun H2 e2 => q1 H2 e2⟩) fun H2 e2 => ?_
    have e12 := e1.trans e2
    refine q_drop (ev_call (z := .non) (vs := [.ref tb, .int (T.length : Int)]) (ea_cons (ev_var rfl) (ea_cons (ev_var rfl) ea_nil)) fun X e Q1 q1 E1 => ⟨tb, t, l, T, rfl, (e12.trans e) _ _ htb, (e12.trans e) _ _ ht, hl, g.ris, by have := g.len; omega, fun H2 e2 => q1 H2 e2⟩) fun H3 e3 => ?_
    have e13 := e12.trans e3
    refine q_fldV (v := .ref fa) (ev_call (vs := [.ref fa]) (ea_cons (ev_var rfl) ea_nil) fun X e Q1 q1 E1 => ⟨fa, rfl, fun H2 e2 => q1 H2 e2⟩) (ev_var rfl) (e13 _ _ ha) WC.c WC.n1 (by simp) fun H4 e4 => ?_
    generalize hA : upd H4 a (.ins CW dx (putF "_facts" (.ref fa) [])) = HA
    have aA : HA a = some (.ins CW dx [("_facts", .ref fa)]) := by rw [← hA, upd_same]; rfl
    have bA : ExB a H HA := by rw [← hA]; exact (ExB.of (e13.trans e4)).trans .upd
    refine q_drop (ev_call (z := .non) (vs := [.ref tb, .int (T.length : Int), .ref fa]) (ea_cons (ev_var rfl) (ea_cons (ev_var rfl) (ea_cons (ev_fld (K := K) (ev_var rfl) aA WC.c WC.n1 rfl) ea_nil))) fun X e Q1 q1 E1 =>
      ⟨tb, t, fa, l, T, rfl, e _ _ (bA _ _ nB htb), sq_of (e _ _ (bA _ _ nT ht)), hl, g.ris, g.zero, by have := g.len; omega, (fF' bA).mono e, fun H2 e2 => q1 H2 e2⟩) fun H5 e5 => ?_
    refine q_fldV (v := .int (T.length : Int)) (ev_var rfl) (ev_var rfl) (e5 _ _ aA) WC.c WC.n2 (by simp) fun H6 e6 => ?_
    generalize hB : upd H6 a (.ins CW dx (putF "_steps" (.int (T.length : Int)) [("_facts", .ref fa)])) = HB
    have aB : HB a = some (.ins CW dx [("_facts", .ref fa), ("_steps", .int (T.length : Int))]) := by rw [← hB, upd_same]; rfl
    have bB : ExB a H HB := by rw [← hB]; exact (bA.trans (.of (e5.trans e6))).trans .upd
    refine q_fldP (evp_N (o := .dK []) (fun X e Q1 q1 => ⟨.ref pl, rfl, pl, [], rfl, .inl (e _ _ (bB _ _ nP hpl)), fun p hp => q1 p _ hp (Ex.new hp) upd_same⟩) aB) (ev_var rfl) aB WC.c WC.n3 (by simp) stays_N fun v H7 e7 ⟨pc, hv, hpc, npc⟩ => ?_
    subst hv
    generalize hC : upd H7 a (.ins CW dx (putF "_places" (.ref pc) [("_facts", .ref fa), ("_steps", .int (T.length : Int))])) = HC
    have aC : HC a = some (.ins CW dx [("_facts", .ref fa), ("_steps", .int (T.length : Int)), ("_places", .ref pc)]) := by rw [← hC, upd_same]; rfl
    have bC : ExB a H HC := by rw [← hC]; exact (bB.trans (.of e7)).trans .upd
    refine q_fldP (evp_N2 (mk := fun q => .dK [(.inr l, .ref q)]) (o := .lst (nv T)) (fun X e Q1 q1 => en_copy (k := .inr l) (t := t) (xs := nv T) (bC _ _ nB htb) (bC _ _ nT ht) ntb (fun _ => ev_var rfl) rfl rfl rfl X e Q1 q1) aC) (ev_var rfl) aC WC.c WC.n4 (by simp) stays_N2 fun v H8 e8 ⟨tc, tt, hv, htc, htt, ntc, ntt⟩ => ?_
    subst hv
    generalize hD : upd H8 a (.ins CW dx (putF "_tables" (.ref tc) [("_facts", .ref fa), ("_steps", .int (T.length : Int)), ("_places", .ref pc)])) = HD
    have aD : HD a = some (.ins CW dx [("_facts", .ref fa), ("_steps", .int (T.length : Int)), ("_places", .ref pc), ("_tables", .ref tc)]) := by rw [← hD, upd_same]; rfl
    have bD : ExB a H HD := by rw [← hD]; exact (bC.trans (.of e8)).trans .upd
    have htcD : HD tc = some (.dK [(.inr l, .ref tt)]) := by rw [← hD, upd_ne ntc]; exact htc
    have httD : HD tt = some (.lst (nv T)) := by rw [← hD, upd_ne ntt]; exact htt
    have fD := fF' bD
    refine s_fldP (evp_N2 (mk := fun q => .dK [(.inr (Txt.upper l), .ref q)]) (o := .lst (nv (backT T))) (fun X e Q1 q1 => en_backs (l := l) (xs := nv (backT T)) (H := HD) (by
        have z := ei_str (ev_prop (E := E0) (ev_fld (K := K) (σ := start nWI [.ref a, .int (T.length : Int), .ref pl, .ref tb, .ref fa]) (to := tVar 0) (ev_var rfl) aD WC.c WC.n1 rfl) (bD _ _ nF hFa) (sv_paired fD))
        rw [hl.signs] at z
        exact z) rfl (fun Y e2 => ev_upper (ev_var rfl) (by omega)) (fun Y e2 => el_call (vs := [.ref t]) (ea_cons (ev_dget (k := .inr l) (ev_var rfl) (ev_var rfl) (e2 _ _ (bD _ _ nB htb)) valV_one) ea_nil) (sl_back (sq_of (e2 _ _ (bD _ _ nT ht))) g)) X e Q1 q1) aD) (ev_var rfl) aD WC.c WC.n5 (by simp) stays_N2 fun v H9 e9 ⟨bc, bb, hv, hbc, hbb, nbc, nbb⟩ => ?_
    subst hv
    refine k _ ((bD.trans (.of e9)).trans .upd) ⟨dx, fa, pc, tc, bc, tt, bb, by rw [upd_same]; rfl, by rw [upd_ne ntc]; exact e9 _ _ htcD, by rw [upd_ne ntt]; exact e9 _ _ httD, by rw [upd_ne nbc]; exact hbc, by rw [upd_ne nbb]; exact hbb⟩
/-! ### World._shown, .table_of, .head_table -/
abbrev s_shown : Stmt := inClass c_world 9
/-- the letter x shows the table U -/
def Shows (l : PySem.Str) (T : List Nat) (x : PySem.Str) (U : List Nat) : Prop := (x = l ∧ U = T) ∨ (x = Txt.upper l ∧ U = backT T)
theorem cap_one : ∀ c ∈ smallsS.cps.toList, ∃ d, Txt.upper ⟨#[c]⟩ = ⟨#[d]⟩ ∧ d ≠ c ∧ d ≠ 49 ∧ c ≠ 49 := by
  have h : (smallsS.cps.toList.all fun c => (Txt.upper ⟨#[c]⟩).cps.size == 1 && ((Txt.upper ⟨#[c]⟩).cps.getD 0 0 != c) && ((Txt.upper ⟨#[c]⟩).cps.getD 0 0 != 49) && (c != 49)) = true := by decide +kernel
  intro c hc
  have z := List.all_eq_true.mp h c hc
  simp only [Bool.and_eq_true, bne_iff_ne, beq_iff_eq] at z
  generalize Txt.upper ⟨#[c]⟩ = u at z
  obtain ⟨d, rfl⟩ := one_sign (x := u) z.1.1.1
  exact ⟨d, rfl, z.1.1.2, z.1.2, z.2⟩
theorem up_len {l : PySem.Str} (h : One l) : (Txt.upper l).length = 1 := by obtain ⟨c, rfl, hc⟩ := h.sign; obtain ⟨d, e, _⟩ := cap_one c hc; rw [e]; rfl
theorem up_ne {l : PySem.Str} (h : One l) : Txt.upper l ≠ l := by
  obtain ⟨c, rfl, hc⟩ := h.sign
  obtain ⟨d, e, n, _⟩ := cap_one c hc
  rw [e]
  intro z
  apply n
  have z2 : (#[d] : Array Nat) = #[c] := congrArg Str.cps z
  simpa using z2
theorem shows_ne {l x : PySem.Str} {T U : List Nat} (h : One l) (s : Shows l T x U) : x ≠ "1" := by
  obtain ⟨c, rfl, hc⟩ := h.sign
  obtain ⟨d, e, _, n1, n2⟩ := cap_one c hc
  have one1 : ("1" : PySem.Str) = ⟨#[49]⟩ := by decide
  rcases s with ⟨rfl, _⟩ | ⟨rfl, _⟩
  · rw [one1]
    intro z
    have z2 : (#[c] : Array Nat) = #[49] := congrArg Str.cps z
    exact n2 (by simpa using z2)
  · rw [e, one1]
    intro z
    have z2 : (#[d] : Array Nat) = #[49] := congrArg Str.cps z
    exact n1 (by simpa using z2)
theorem str_eq {x y : PySem.Str} : decide (V.str x = V.str y) = decide (x = y) := by
  by_cases h : x = y
  · simp [h]
  · rw [decide_eq_false h, decide_eq_false fun q => h (V.str.inj q)]
theorem scShown : FnScope ["self", "letter"] ["self", "letter"] (defScope s_shown) := ⟨rfl, rfl, rfl, by decide +kernel, rfl, by decide +kernel, by decide +kernel⟩
def spShown (CW : Addr) : Sp := fun vs H Q _ => ∃ (a : Addr) (l x : PySem.Str) (T U : List Nat), vs = [.ref a, .str x] ∧ WAt CW H a l T ∧ One l ∧ Shows l T x U ∧ ∀ t H2, Ex H H2 → H2 t = some (.lst (nv U)) → Q (.ref t) H2
theorem ok_shown (WC : WCls K mg CW) (D : DatM K "_shown" "World._shown" s_shown ["self", "letter"] f fd) : FnOk P w K mg base (L2.CX P w) 1 f fd ["self", "letter"] (spShown CW) := by
  refine D.F.okX scShown (fun vs H Q E h => ?_) (fun cdv A outer s H vs Q E hr h => ?_)
  · obtain ⟨a, l, x, T, U, rfl, _⟩ := h
    rfl
  · obtain ⟨a, l, x, T, U, rfl, ⟨dx, fa, pl, tb, bk, t, b, h1, h2, h3, h4, h5⟩, hl, sh, k⟩ := h
    have hu := hr.units
    have hu1 : (A.deeper (envOfC "World._shown" (defScope s_shown) s.heap.objs.size f cdv)).units + 1 < cLine := by omega
    refine ⟨_, pss_cons (ps_if (pt_cmp (pc_din hu1 (pv 1) (pe_fld (pv 0) rfl))) (pss_one (ps_ret (pe_dget hu1 (pe_fld (pv 0) rfl) (pv 1) (fun _ _ => rfl)))) pss_nil)
      (pss_cons (ps_if (pt_cmp (pc_din hu1 (pv 1) (pe_fld (pv 0) rfl))) (pss_one (ps_ret (pe_dget hu1 (pe_fld (pv 0) rfl) (pv 1) (fun _ _ => rfl)))) pss_nil)
      pss_no), ?_⟩
    rcases sh with ⟨rfl, rfl⟩ | ⟨rfl, rfl⟩
    · refine q_when (b := true) (et_is (et_B (ev_din (k := .inr x) (ev_var rfl) (ev_fld (K := K) (ev_var rfl) h1 WC.c WC.n4 rfl) h2)) (by rw [valV_one]; rfl)) (fun _ H1 e1 => ?_) fun h => nomatch h
      refine s_ret (ev_dget (k := .inr x) (ev_fld (K := K) (ev_var rfl) (e1 _ _ h1) WC.c WC.n4 rfl) (ev_var rfl) (e1 _ _ h2) valV_one) fun H2 e2 => k t H2 (e1.trans e2) ((e1.trans e2) _ _ h3)
    · refine q_when (b := false) (et_is (et_B (ev_din (k := .inr (Txt.upper l)) (ev_var rfl) (ev_fld (K := K) (ev_var rfl) h1 WC.c WC.n4 rfl) h2)) (by rw [valV_other (fun z => up_ne hl (Sum.inr.inj z).symm)]; rfl)) (fun h => nomatch h) fun _ H1 e1 => ?_
      refine q_when (b := true) (et_is (et_B (ev_din (k := .inr (Txt.upper l)) (ev_var rfl) (ev_fld (K := K) (ev_var rfl) (e1 _ _ h1) WC.c WC.n5 rfl) (e1 _ _ h4))) (by rw [valV_one]; rfl)) (fun _ H2 e2 => ?_) fun h => nomatch h
      have e12 := e1.trans e2
      refine s_ret (ev_dget (k := .inr (Txt.upper l)) (ev_fld (K := K) (ev_var rfl) (e12 _ _ h1) WC.c WC.n5 rfl) (ev_var rfl) (e12 _ _ h4) valV_one) fun H3 e3 => k b H3 (e12.trans e3) ((e12.trans e3) _ _ h5)
theorem evp_meth {σ : L2.St} {H : Hp} {te : TE} {C : Addr} {m : PySem.Str} {sp : Sp} {dx : Addr} {fs : List (PySem.Str × V)} {a : Addr} {E : XK} {vs : List V} {t : TA} {R : V → Hp → Prop} (h : Ev te σ H (.ref a)) (ha : H a = some (.ins C dx fs)) (hm : fs.lookup m = none) (hvs : EvA t σ H vs)
    (hs : ∀ H1, Ex H H1 → ∀ Q : VK, (∀ v H2, Ex H1 H2 → R v H2 → Q v H2) → ∀ E, sp (.ref a :: vs) H1 Q E) : EvP (tMeth C m sp [] E te t) σ H R := fun H1 e Q q => h H1 e _ fun H2 e2 => ⟨a, dx, fs, rfl, (e.trans e2) _ _ ha, hm, hvs H2 (e.trans e2) _ fun H3 e3 => by
    rw [List.append_nil]
    exact hs H3 ((e.trans e2).trans e3) _ (fun v H4 e4 r => q v H4 ((e2.trans e3).trans e4) r) E⟩
theorem el_listP {σ : L2.St} {H : Hp} {te : TE} {xs : List V} (h : EvP te σ H fun v H' => ∃ t, v = .ref t ∧ H' t = some (.lst xs)) : EvL (tCB (rListS K) (tCons te tNil)) σ H xs := fun H1 e Q q => h H1 e _ fun v H2 e2 ⟨t, hv, ht⟩ => by
  subst hv
  exact ⟨t, xs, rfl, .inl (sq_of ht), fun p hp => q p _ (fresh_back e2 hp) (e2.trans (Ex.new hp)) upd_same⟩
abbrev s_table_of : Stmt := inClass c_world 8
theorem scTO : FnScope ["self", "letter"] ["self", "letter"] (defScope s_table_of) := ⟨rfl, rfl, rfl, by decide +kernel, rfl, by decide +kernel, by decide +kernel⟩
def spTO (CW : Addr) : Sp := fun vs H Q _ => ∃ (a : Addr) (l x : PySem.Str) (T U : List Nat), vs = [.ref a, .str x] ∧ WAt CW H a l T ∧ One l ∧ Shows l T x U ∧ RetL (nv U) H Q
theorem ok_table_of (W : Wd mg) (WC : WCls K mg CW) (MS : Meth K CW "_shown" f1) (D : DatM K "table_of" "World.table_of" s_table_of ["self", "letter"] f fd) (D1 : DatM K "_shown" "World._shown" s_shown ["self", "letter"] f1 fd1) (G1 : FnOk P w K mg base (L2.CX P w) 1 f1 fd1 ["self", "letter"] (spShown CW)) :
    FnOk P w K mg base (L2.CX P w) 2 f fd ["self", "letter"] (spTO CW) := by
  refine D.F.okX scTO (fun vs H Q E h => ?_) (fun cdv A outer s H vs Q E hr h => ?_)
  · obtain ⟨a, l, x, T, U, rfl, _⟩ := h
    rfl
  · obtain ⟨a, l, x, T, U, rfl, hW, hl, sh, k⟩ := h
    refine ⟨_, pss_cons (ps_if (pt_cmpR op_eq (pv 1) pe_str (nomark _)) pss_no pss_nil)
      (pss_one (ps_ret (pe_callTy call_list_of rfl W.list PyProof.Rows.boot_list (pa_cons (pe_meth (pv 0) WC.c MS G1 hr D1.b .nil (pas0 (X := cxOf (L2.CX P w) P w K mg base ["self", "letter"] "World.table_of" (defScope s_table_of) f cdv A outer s H E)) (pa_cons (pv 1) pa_nil)) pa_nil)))), ?_⟩
    refine q_when (b := false) (et_is (et_test (ev_op (ev_var rfl) ev_c (rv_eq rfl))) (by rw [str_eq]; exact decide_eq_false (shows_ne hl sh))) (fun h => nomatch h) fun _ H1 e1 => ?_
    obtain ⟨dx, fa, pl, tb, bk, t, b, h1, hrest⟩ := hW
    refine s_retL (el_listP (K := K) (evp_meth (ev_var rfl) (e1 _ _ h1) rfl (ea_cons (ev_var rfl) ea_nil) fun H2 e2 Q2 q2 E2 => ⟨a, l, x, T, U, rfl, WAt.mono (e1.trans e2) ⟨dx, fa, pl, tb, bk, t, b, h1, hrest⟩, hl, sh, fun t H3 e3 h3 => q2 _ H3 e3 ⟨t, rfl, h3⟩⟩)) fun p H2 hp e2 h2 => k.go e1 hp e2 h2
/-- a table of n steps -/
structure Tb (n : Nat) (U : List Nat) : Prop where
  len : U.length = n
  lt : ∀ k ∈ U, k < n
theorem Grd.tb {T : List Nat} (g : Grd T) : Tb T.length T := ⟨rfl, fun k hk => by
  obtain ⟨i, hi, rfl⟩ := List.getElem_of_mem hk
  have := g.ris.lt i hi
  simpa [hi] using this⟩
theorem thr_le (T : List Nat) (m : Nat) : thr T m ≤ T.length := List.findIdx_le_length
theorem Grd.backTb {T : List Nat} (g : Grd T) : Tb T.length (backT T) := ⟨by simp [backT], fun k hk => by
  obtain ⟨c, hc, rfl⟩ := List.mem_map.mp hk
  have h1 := thr_le T (c + 1)
  have h2 := g.ris.pos
  omega⟩
theorem Tb.comp {n : Nat} {U V : List Nat} (h : Tb n U) (h' : Tb n V) : Tb n (compT U V) := ⟨by simp [compT, h'.len], fun k hk => by
  obtain ⟨c, hc, rfl⟩ := List.mem_map.mp hk
  have hc2 := h'.lt c hc
  exact h.lt _ (getD_mem (by rw [h.len]; exact hc2))⟩
theorem Tb.range (n : Nat) : Tb n (List.range n) := ⟨by simp, fun k hk => List.mem_range.mp hk⟩
def headT (n : Nat) (Us : List (List Nat)) : List Nat := Us.foldr compT (List.range n)
theorem tb_fold {n : Nat} : ∀ {rs : List (List Nat)} {acc : List Nat}, (∀ U ∈ rs, Tb n U) → Tb n acc → Tb n (rs.foldl (fun acc U => compT U acc) acc)
  | [], _, _, h => h
  | U :: rs, acc, hU, h => tb_fold (rs := rs) (fun V hV => hU V (List.mem_cons_of_mem _ hV)) ((hU U List.mem_cons_self).comp h)
abbrev s_headT : Stmt := inClass c_world 10
abbrev nHT : List PySem.Str := ["self", "head", "table", "letter", "outer", "shown"]
theorem scHT : FnScope nHT ["self", "head"] (defScope s_headT) := ⟨rfl, rfl, rfl, by decide +kernel, rfl, by decide +kernel, by decide +kernel⟩
def spHT (CW : Addr) : Sp := fun vs H Q _ => ∃ (a : Addr) (l x : PySem.Str) (T : List Nat) (Us : List (List Nat)), vs = [.ref a, .str x] ∧ WAt CW H a l T ∧ One l ∧ Grd T ∧ x.length ≤ 1000 ∧ Us.length = (TS.signs x).length ∧ (∀ (i : Nat) c U, (TS.signs x)[i]? = some c → Us[i]? = some U → Shows l T c U) ∧ RetL (nv (headT T.length Us)) H Q
theorem ok_headT (W : Wd mg) (WC : WCls K mg CW) (MT : Meth K CW "table_of" f1) (D : DatM K "head_table" "World.head_table" s_headT ["self", "head"] f fd) (D1 : DatM K "table_of" "World.table_of" s_table_of ["self", "letter"] f1 fd1) (G1 : FnOk P w K mg base (L2.CX P w) 2 f1 fd1 ["self", "letter"] (spTO CW))
    (D2 : Dat K mg "still_table" s_still ["steps"] f2 fd2) (G2 : FnOk P w K mg base (L2.CX P w) 1 f2 fd2 ["steps"] spStill) : FnOk P w K mg base (L2.CX P w) 3 f fd ["self", "head"] (spHT CW) := by
  refine D.F.okX scHT (fun vs H Q E h => ?_) (fun cdv A outer s H vs Q E hr h => ?_)
  · obtain ⟨a, l, x, T, Us, rfl, _⟩ := h
    rfl
  · obtain ⟨a, l, x, T, Us, rfl, hW, hl, g, hz, hn, hs, k⟩ := h
    refine ⟨_, pss_cons (ps_set (i := 2) scHT.nd rfl (Or.inl rfl) (pe_call G2 (hr.mono (by decide)) rfl D2.g D2.k D2.b .nil pas0 (pa_cons (pe_fld (pv 0) rfl) pa_nil)))
      (pss_cons (ps_for (passes_of rfl) rfl (pi_revS rfl W.rev (pv 1)) (pg_name (i := 3) scHT.nd rfl (Or.inl rfl))
        (pss_cons (ps_set (i := 4) scHT.nd rfl (Or.inr rfl) (pe_meth (pv 0) WC.c MT G1 hr D1.b .nil (pas0 (X := cxOf (L2.CX P w) P w K mg base nHT "World.head_table" (defScope s_headT) f cdv A outer s H E)) (pa_cons (pv 3) pa_nil)))
        (pss_one (ps_setLc (i := 2) (own := [("shown", 5)]) (g := gName 5) (te := tOp (rIxL K) (tVar 4) (tVar 5)) rfl scHT.nd rfl rfl (sw_true rfl rfl rfl (by decide +kernel)) (pi_list (pv 2)) (blkOk_by (N := nHT) (sc := defScope s_headT) (by decide +kernel))
          (fun _ _ _ _ _ => pg_name (i := 5) scHT.nd rfl (Or.inl rfl)) (fun _ _ _ _ _ => pts_nil) (fun _ _ _ _ _ => pe_ix ix_list (pv 4) (pv 5) (fun _ _ => rfl))))))
      (pss_one (ps_ret (pv 2)))), ?_⟩
    have hW0 := hW
    obtain ⟨dx, fa, pl, tb, bk, t, b, h1, hrest⟩ := hW0
    have hlen := g.len
    have tbU : ∀ U ∈ Us, Tb T.length U := fun U hU => by
      obtain ⟨i, hi, rfl⟩ := List.getElem_of_mem hU
      have hi2 : i < (TS.signs x).length := by omega
      rcases hs i _ _ (List.getElem?_eq_getElem hi2) (List.getElem?_eq_getElem hi) with ⟨_, e⟩ | ⟨_, e⟩
      · rw [e]; exact g.tb
      · rw [e]; exact g.backTb
    refine q_asgL (el_call (ea_cons (ev_fld (K := K) (ev_var rfl) h1 WC.c WC.n2 rfl) ea_nil) (sl_still (by omega))) fun p H1 hp e1 hp1 => ?_
    have hsl : (signsV x).length = Us.length := by rw [hn]; simp [signsV]
    refine q_forI (H := H1) (ei_revS (ev_var rfl) (by omega)) (Ex.refl H1) (fun _ i σ' H' => (∃ p v1 v2, σ' = [some (.ref a), some (.str x), some (.ref p), v1, v2, none] ∧ H' p = some (.lst (nv ((Us.reverse.take i).foldl (fun acc U => compT U acc) (List.range T.length)))) ∧ (H p = none)) ∧ Ex H1 H') (fun _ H2 _ e2 _ => ⟨⟨p, none, none, rfl, e2 _ _ hp1, hp⟩, e2⟩) ?_ ?_
    · rintro G i y σ' H' eG eG' hy ⟨⟨p, v1, v2, rfl, hp2, hpn⟩, e⟩
      have hi : i < Us.length := by
        have := (List.getElem?_eq_some_iff.mp hy).1
        rw [List.length_reverse, hsl] at this; exact this
      have hj : Us.length - 1 - i < Us.length := by omega
      have hj2 : Us.length - 1 - i < (TS.signs x).length := by omega
      obtain ⟨c, hc⟩ : ∃ c, (TS.signs x)[Us.length - 1 - i]? = some c := ⟨_, List.getElem?_eq_getElem hj2⟩
      obtain ⟨U, hU⟩ : ∃ U, Us[Us.length - 1 - i]? = some U := ⟨_, List.getElem?_eq_getElem hj⟩
      have hyc : y = .str c := by
        rw [List.getElem?_reverse (by omega), hsl] at hy
        unfold signsV at hy
        rw [List.getElem?_map, hc] at hy
        exact (Option.some.inj hy).symm
      subst hyc
      have hrev : Us.reverse[i]? = some U := by rw [List.getElem?_reverse hi]; exact hU
      have sh := hs _ _ _ hc hU
      have hUm := List.mem_of_getElem? hU
      have e01 := e1.trans e
      refine q_asgL (el_meth (ev_var rfl) (e01 _ _ h1) rfl (ea_cons (ev_var rfl) ea_nil) fun H2 e2 Q2 q2 E2 => ⟨a, l, c, T, U, rfl, hW.mono (e01.trans e2), hl, sh, fun q H3 hq e3 h3 => q2 q H3 hq e3 h3⟩) fun q H2 hq e2 h2 => ?_
      have tbA : Tb T.length ((Us.reverse.take i).foldl (fun acc U => compT U acc) (List.range T.length)) := tb_fold (fun V hV => tbU V (List.mem_reverse.mp (List.mem_of_mem_take hV))) (.range _)
      refine s_asgL (el_put (P := P) (w := w) (K := K) (o := U) (i := (Us.reverse.take i).foldl (fun acc U => compT U acc) (List.range T.length)) (a := q) (b := p) (ev_var rfl) (fun _ _ _ => ev_var rfl) (sq_of h2) (sq_of (e2 _ _ hp2)) (by rw [tbA.len]; omega) (fun k hk => by rw [(tbU U hUm).len]; exact tbA.lt k hk) (fun _ => rfl) fun _ => rfl) fun r H3 hr3 e3 h3 => ?_
      refine ⟨(eG'.trans e2).trans e3, ⟨r, _, _, rfl, ?_, fresh_back (e01.trans e2) hr3⟩, (e.trans e2).trans e3⟩
      rw [h3, List.take_add_one, hrev, List.foldl_append]
      rfl
    · rintro G σ' H' eG eG' ⟨⟨p, v1, v2, rfl, hp2, hpn⟩, e⟩
      refine s_ret (ev_var rfl) fun H2 e2 => k p H2 hpn ((e1.trans e).trans e2) ?_
      rw [e2 _ _ hp2]
      have : ((signsV x).reverse).length = Us.reverse.length := by rw [List.length_reverse, List.length_reverse, hsl]
      rw [this, List.take_length]
      unfold headT
      rw [List.foldr_eq_foldl_reverse]
end
end Z
end
/-! Z10 -/
set_option linter.all false
set_option maxRecDepth 100000
set_option maxHeartbeats 4000000
noncomputable section
namespace Z
open PySem PySem.Spec PyProof.Rows L2 PySem.Froz Evl TS

section
variable {σ : L2.St} {H H1 : Hp} {tb tz : TS} {D : Ends} {wi : TI} {xs : List V} {j : Nat}
/-- a loop whose body changes what the ground does not know -/
theorem s_forN (h : EvI wi σ H xs) (e1 : Ex H H1) (Pv : Nat → L2.St → Hp → Prop) (h0 : ∀ H2, Ex H1 H2 → Pv 0 σ H2)
    (hs : ∀ G i x σ' H', Ex H G → (∀ b, H b = none → H1 b ≠ none → G b = none) → Ex G H' → xs[i]? = some x → Pv i σ' H' → tb { D with nx := fun σ2 H2 => Ex G H2 ∧ Pv (i + 1) σ2 H2, ct := fun σ2 H2 => Ex G H2 ∧ Pv (i + 1) σ2 H2, bk := D.nx } (σ'.set j (some x)) H')
    (hd : ∀ σ' H', Ex H H' → Pv xs.length σ' H' → D.nx σ' H') : tFor wi (gName j) tb D σ H1 := h H1 e1 _ fun J H2 G e2 eG eG2 nG g => by
  refine ⟨fun i m σ' H' => i ≤ xs.length ∧ m = xs.length - i ∧ Ex G H' ∧ Pv i σ' H', ⟨xs.length, Nat.zero_le _, by simp, eG2, h0 H2 e2⟩, ?_⟩
  rintro i m σ' H' ⟨hi, rfl, c, p⟩
  cases q : xs[i]? with
  | some x =>
    have hlt := (List.getElem?_eq_some_iff.mp q).1
    refine .inr ⟨g.go i x H' q c, fun σ2 H2 => Ex G H2 ∧ Pv (i + 1) σ2 H2, fun σ2 H2 p' => ⟨xs.length - (i + 1), by omega, hlt, rfl, p'⟩, fun y H2 hy => ?_⟩
    obtain ⟨rfl, rfl⟩ := g.yld i x H' y H2 q c hy
    exact hs G i _ _ _ eG nG c q p
  | none =>
    have z : i = xs.length := Nat.le_antisymm hi (List.getElem?_eq_none_iff.mp q)
    subst z
    exact .inl ⟨g.stop _ H' (Nat.le_refl _) c, hd _ _ (eG.trans c) p⟩
theorem q_forN (h : EvI wi σ H xs) (e1 : Ex H H1) (Pv : Nat → L2.St → Hp → Prop) (h0 : ∀ H2, Ex H1 H2 → Pv 0 σ H2)
    (hs : ∀ G i x σ' H', Ex H G → (∀ b, H b = none → H1 b ≠ none → G b = none) → Ex G H' → xs[i]? = some x → Pv i σ' H' → tb { D with nx := fun σ2 H2 => Ex G H2 ∧ Pv (i + 1) σ2 H2, ct := fun σ2 H2 => Ex G H2 ∧ Pv (i + 1) σ2 H2, bk := tz D } (σ'.set j (some x)) H')
    (hd : ∀ σ' H', Ex H H' → Pv xs.length σ' H' → tz D σ' H') : tSeq (tFor wi (gName j) tb) tz D σ H1 := s_forN (D := { D with nx := tz D }) h e1 Pv h0 hs hd
end

abbrev s_read : Stmt := top 55
abbrev s_source : Stmt := top 56
abbrev s_draw : Stmt := top 57
abbrev s_size : Stmt := top 58
/-- the pair that the draws change, n of them at most so far -/
def Src (H : Hp) (a : Addr) (n : Nat) : Prop := ∃ u v : Int, H a = some (.lst [.int u, .int v]) ∧ -1 ≤ v ∧ v ≤ n
theorem Src.mono {H H' : Hp} {a : Addr} {n : Nat} (e : Ex H H') (h : Src H a n) : Src H' a n := by
  obtain ⟨u, v, h1, h2⟩ := h
  exact ⟨u, v, e _ _ h1, h2⟩
theorem Src.more {H : Hp} {a : Addr} {n m : Nat} (h : Src H a n) (hm : n ≤ m) : Src H a m := by
  obtain ⟨u, v, h1, h2, h3⟩ := h
  exact ⟨u, v, h1, h2, by omega⟩
section
variable {σ : L2.St} {H : Hp} {te : TE} {ta : TA} {D : Ends} {tz : TS} {i : Nat} {R : V → Hp → Prop}
theorem evp_call {sp : Sp} {vs : List V} {E : XK} (h : EvA ta σ H vs) (hs : ∀ H1, Ex H H1 → ∀ Q : VK, (∀ v H2, Ex H1 H2 → R v H2 → Q v H2) → ∀ E, sp vs H1 Q E) : EvP (tCall sp [] E ta) σ H R := fun H1 e Q q =>
  h H1 e _ fun H2 e2 => by
    rw [List.append_nil]
    exact hs H2 (e.trans e2) Q (fun v H3 e3 r => q v H3 (e2.trans e3) r) E
end
section
variable {P : Program} {w : World} {K : PySem.W.Frag} {mg : PySem.Str → Option Value} {base : Heap} {f f1 : Addr} {fd fd1 : FuncData}
def spRead (K : PySem.W.Frag) : Sp := fun vs H Q _ => ∃ (a : Addr) (k : Nat) (ns : List Int), vs = [.ref a, .int k] ∧ SqL K H a (ns.map V.int) ∧ ns.length ≤ 63 ∧ ∀ (v : Int) (H2 : Hp), Ex H H2 → Q (.int v) H2
theorem scRead : FnScope ["_law_script", "_law_k"] ["_law_script", "_law_k"] (defScope s_read) := ⟨rfl, rfl, rfl, by decide +kernel, rfl, by decide +kernel, by decide +kernel⟩
theorem ok_read (W : Wd mg) (D : Dat K mg "_law_read" s_read ["_law_script", "_law_k"] f fd) : FnOk P w K mg base (L2.CX P w) 1 f fd ["_law_script", "_law_k"] (spRead K) := by
  refine D.F.okX scRead (fun vs H Q E h => ?_) (fun cdv A outer s H vs Q E hr h => ?_)
  · obtain ⟨a, k, ns, rfl, _⟩ := h
    rfl
  · obtain ⟨a, k, ns, rfl, hS, hl, q⟩ := h
    refine ⟨_, pss_cons (ps_if (pt_cmpR op_lt (pv 1) (pe_callB call_len_seq (by rfl) W.len PySem.boot_len (pa_cons (pv 0) pa_nil)) (nomark _)) (pss_one (ps_ret (pe_ix ix_list (pv 0) (pv 1) (fun _ _ => rfl)))) pss_nil) (pss_one (ps_ret pe_int)), ?_⟩
    refine q_when (et_test (ev_op (x := .int (k : Int)) (y := .int ((ns.map V.int).length : Int)) (ev_var rfl) (ev_len (K := K) (ev_var rfl) hS) rv_I0)) (fun hb H1 e => ?_) fun hb H1 e => s_ret ev_c fun H2 e2 => q 0 H2 (e.trans e2)
    have hk := of_decide_eq_true hb
    rw [List.length_map] at hk
    have hk2 : k < ns.length := by omega
    refine s_ret (ev_op (ev_var rfl) (ev_var rfl) (rv_ixL (ex_l e hS) (v := .int ns[k]) ?_)) fun H2 e2 => q _ H2 (e.trans e2)
    rw [atI_nat]
    simp [hk2]
/-- a new pair -/
def spSource (K : PySem.W.Frag) : Sp := fun vs H Q _ => ∃ (a : Addr) (k : Nat) (ns : List Int), vs = [.ref a, .int k] ∧ SqL K H a (ns.map V.int) ∧ ns.length ≤ 63 ∧ ∀ (p : Addr) (H2 : Hp), H p = none → Ex H H2 → Src H2 p 0 → Q (.ref p) H2
theorem scSource : FnScope ["_law_script", "_law_k", "_law_cell"] ["_law_script", "_law_k"] (defScope s_source) := ⟨rfl, rfl, rfl, by decide +kernel, rfl, by decide +kernel, by decide +kernel⟩
theorem ev_abs {σ : L2.St} {H : Hp} {te : TE} {i : Int} (h : Ev te σ H (.int i)) : Ev (tCB (fun xs H Q => ∃ i, xs = [V.int i] ∧ Q (.int (if i < 0 then -i else i)) H) (tCons te tNil)) σ H (.int (if i < 0 then -i else i)) := fun H1 e Q q => h H1 e _ fun H2 e2 => ⟨i, rfl, q H2 e2⟩
abbrev rInt : List V → Hp → VK → Prop := fun xs H Q => (∃ i, xs = [V.int i] ∧ Q (.int i) H) ∨ ∃ k, xs = [V.bl k] ∧ Q (.int (if k then 1 else 0)) H
theorem ev_int {σ : L2.St} {H : Hp} {te : TE} {i : Int} (h : Ev te σ H (.int i)) : Ev (tCB rInt (tCons te tNil)) σ H (.int i) := fun H1 e Q q => h H1 e _ fun H2 e2 => .inl ⟨i, rfl, q H2 e2⟩
theorem ev_intB {σ : L2.St} {H : Hp} {te : TE} {b : Bool} (h : Ev te σ H (.bl b)) : Ev (tCB rInt (tCons te tNil)) σ H (.int (if b then 1 else 0)) := fun H1 e Q q => h H1 e _ fun H2 e2 => .inr ⟨b, rfl, q H2 e2⟩
theorem ok_source (L : Lb mg) (D : Dat K mg "_law_source" s_source ["_law_script", "_law_k"] f fd) (D1 : Dat K mg "_law_read" s_read ["_law_script", "_law_k"] f1 fd1) (G1 : FnOk P w K mg base (L2.CX P w) 1 f1 fd1 ["_law_script", "_law_k"] (spRead K)) :
    FnOk P w K mg base (L2.CX P w) 2 f fd ["_law_script", "_law_k"] (spSource K) := by
  refine D.F.okX scSource (fun vs H Q E h => ?_) (fun cdv A outer s H vs Q E hr h => ?_)
  · obtain ⟨a, k, ns, rfl, _⟩ := h
    rfl
  · obtain ⟨a, k, ns, rfl, hS, hl, q⟩ := h
    refine ⟨_, pss_cons (ps_set (i := 2) scSource.nd rfl (Or.inl rfl) (pe_call G1 hr rfl D1.g D1.k D1.b .nil pas0 (pa_cons (pv 0) (pa_cons (pv 1) pa_nil))))
      (pss_cons (ps_if (pt_cmpR op_ge (pe_callB call_abs (by rfl) L.abs boot_abs (pa_cons (pv 2) pa_nil)) (pe_op op_pow pe_int pe_int) (nomark _))
        (pss_one (ps_ret (pe_lst (pa_cons (pe_op op_mod (pe_callTy call_int1 rfl L.int PyProof.Rows.boot_int (pa_cons (pe_op op_sub (pe_callB call_abs (by rfl) L.abs boot_abs (pa_cons (pv 2) pa_nil)) (pe_op op_pow pe_int pe_int)) pa_nil)) (pe_op op_pow pe_int pe_int)) (pa_cons (pe_un un_neg pe_int) pa_nil))))) pss_nil)
      (pss_one (ps_ret (pe_lst (pa_cons (pe_op op_add (pe_op op_mul pe_int (pe_callB call_abs (by rfl) L.abs boot_abs (pa_cons (pv 2) pa_nil))) (pe_callTy call_int1 rfl L.int PyProof.Rows.boot_int (pa_cons (pe_cmpR op_lt (pv 2) pe_int (nomark _)) pa_nil))) (pa_cons pe_int pa_nil)))))), ?_⟩
    refine q_asgP (R := fun v _ => ∃ c : Int, v = .int c) (evp_call (vs := [.ref a, .int k]) (ea_cons (ev_var rfl) (ea_cons (ev_var rfl) ea_nil)) fun H1 e Q q E => ⟨a, k, ns, rfl, ex_l e hS, hl, fun v H2 e2 => q _ H2 e2 ⟨v, rfl⟩⟩) fun v H1 e1 hv => ?_
    obtain ⟨c, rfl⟩ := hv
    have p18 : CPow 10 18 := ⟨by decide, by decide, by decide⟩
    have p60 : CPow 10 60 := ⟨by decide, by decide, by decide⟩
    refine q_when (et_test (ev_op (ev_abs (ev_var rfl)) (ev_op ev_c ev_c (rv_I p18)) rv_I0)) (fun hb H2 e2 => ?_) fun hb H2 e2 => ?_
    · refine s_retL (el_lst (ea_cons (ev_op (ev_int (ev_op (ev_abs (ev_var rfl)) (ev_op ev_c ev_c (rv_I p18)) rv_I0)) (ev_op ev_c ev_c (rv_I p60)) (rv_I (by decide))) (ea_cons ev_neg1 ea_nil)) (by show 2 ≤ 100000; decide)) fun p H3 hp e3 h3 => q p H3 (fresh_back (e1.trans e2) hp) ((e1.trans e2).trans e3) ⟨_, _, h3, by decide, by decide⟩
    · refine s_retL (el_lst (ea_cons (ev_op (ev_op ev_c (ev_abs (ev_var rfl)) (rv_I (.inl ⟨by decide, by decide⟩))) (ev_intB (ev_op (ev_var rfl) ev_c rv_I0)) rv_I0) (ea_cons ev_c ea_nil)) (by show 2 ≤ 100000; decide)) fun p H3 hp e3 h3 => q p H3 (fresh_back (e1.trans e2) hp) ((e1.trans e2).trans e3) ⟨_, _, h3, by decide, by decide⟩
end

def spDraw : Sp := fun vs H Q _ => ∃ (a : Addr) (m : Int) (n : Nat), vs = [.ref a, .int m] ∧ Src H a n ∧ n ≤ 2 ^ 40 ∧ m < 2 ^ 29 ∧ ∀ (r : Int) (H2 : Hp), 0 ≤ r → (r < m ∨ r = 0) → ExB a H H2 → Src H2 a (n + 1) → Q (.int r) H2
section
variable {P : Program} {w : World} {K : PySem.W.Frag} {mg : PySem.Str → Option Value} {base : Heap} {f f1 : Addr} {fd fd1 : FuncData}
theorem ix0 {K : PySem.W.Frag} {H : Hp} {a : Addr} {u v : Int} (h : H a = some (.lst [.int u, .int v])) : RV (rIxL K) (.ref a) (.int 0) H (.int u) := rv_ixL (sq_of h) rfl
theorem ix1 {K : PySem.W.Frag} {H : Hp} {a : Addr} {u v : Int} (h : H a = some (.lst [.int u, .int v])) : RV (rIxL K) (.ref a) (.int 1) H (.int v) := rv_ixL (sq_of h) rfl
theorem prime_at (i : Int) (h0 : 0 ≤ i) (h7 : i < 7) : ∃ p : Int, atI ([.int 48271, .int 10007, .int 69997, .int 30011, .int 90001, .int 20011, .int 50021] : List V) i = some (.int p) ∧ 0 ≤ p ∧ p < 100000 := by
  have : i = 0 ∨ i = 1 ∨ i = 2 ∨ i = 3 ∨ i = 4 ∨ i = 5 ∨ i = 6 := by omega
  rcases this with rfl | rfl | rfl | rfl | rfl | rfl | rfl
  · exact ⟨48271, rfl, by decide, by decide⟩
  · exact ⟨10007, rfl, by decide, by decide⟩
  · exact ⟨69997, rfl, by decide, by decide⟩
  · exact ⟨30011, rfl, by decide, by decide⟩
  · exact ⟨90001, rfl, by decide, by decide⟩
  · exact ⟨20011, rfl, by decide, by decide⟩
  · exact ⟨50021, rfl, by decide, by decide⟩
theorem scDraw : FnScope ["_law_source_here", "_law_many", "_law_found", "_law_place", "_law_primes", "_law_mixed"] ["_law_source_here", "_law_many"] (defScope s_draw) := ⟨rfl, rfl, rfl, by decide +kernel, rfl, by decide +kernel, by decide +kernel⟩
theorem ok_draw (L : Lb mg) (D : Dat K mg "_law_draw" s_draw ["_law_source_here", "_law_many"] f fd) : FnOk P w K mg base (L2.CX P w) 1 f fd ["_law_source_here", "_law_many"] spDraw := by
  refine D.F.okX scDraw (fun vs H Q E h => ?_) (fun cdv A outer s H vs Q E hr h => ?_)
  · obtain ⟨a, m, n, rfl, _⟩ := h
    rfl
  · obtain ⟨a, m, n, rfl, ⟨u, v, ha, v1, v2⟩, hn, hm, k⟩ := h
    have S0 : ∀ H2, Ex H H2 → Src H2 a (n + 1) := fun H2 e => ⟨u, v, e _ _ ha, v1, by omega⟩
    refine ⟨_, pss_cons (ps_if (PW.pt (pw_or (pt_cmpR op_lt (pv 1) pe_int (nomark _)) (pw_or1 (pt_cmpR op_eq (pe_ix ix_list (pv 0) pe_int (fun _ _ => rfl)) pe_int (nomark _))))) (pss_one (ps_ret pe_int)) pss_nil)
      (pss_cons (ps_if (pt_cmpR op_lt (pe_ix ix_list (pv 0) pe_int (fun _ _ => rfl)) pe_int (nomark _))
        (pss_cons (ps_set (i := 2) scDraw.nd rfl (Or.inl rfl) (pe_op op_mod (pe_callTy call_int1 rfl L.int PyProof.Rows.boot_int (pa_cons (pe_ix ix_list (pv 0) pe_int (fun _ _ => rfl)) pa_nil)) (pv 1)))
          (pss_cons (ps_asg (pe_op op_fdiv (pe_ix ix_list (pv 0) pe_int (fun _ _ => rfl)) (pv 1)) (pg_sub (pv 0) pe_int set_list)) (pss_one (ps_ret (pv 2))))) pss_nil)
      (pss_cons (ps_asg (pe_op op_add (pe_ix ix_list (pv 0) pe_int (fun _ _ => rfl)) pe_int) (pg_sub (pv 0) pe_int set_list))
      (pss_cons (ps_set (i := 3) scDraw.nd rfl (Or.inl rfl) (pe_ix ix_list (pv 0) pe_int (fun _ _ => rfl)))
      (pss_cons (ps_set (i := 4) scDraw.nd rfl (Or.inl rfl) (pe_lst (pa_cons pe_int (pa_cons pe_int (pa_cons pe_int (pa_cons pe_int (pa_cons pe_int (pa_cons pe_int (pa_cons pe_int pa_nil)))))))))
      (pss_cons (ps_set (i := 5) scDraw.nd rfl (Or.inl rfl) (pe_op op_mod (pe_callTy call_int1 rfl L.int PyProof.Rows.boot_int (pa_cons (pe_op op_add (pe_op op_mul (pe_ix ix_list (pv 0) pe_int (fun _ _ => rfl)) (pe_ix ix_list (pv 4) (pe_op op_mod (pe_callTy call_int1 rfl L.int PyProof.Rows.boot_int (pa_cons (pv 3) pa_nil)) pe_int) (fun _ _ => rfl)))
          (pe_op op_mul (pe_op op_mul (pv 3) (pv 3)) pe_int)) pa_nil)) pe_int))
      (pss_cons (ps_set (i := 5) scDraw.nd rfl (Or.inl rfl) (pe_op op_mod (pe_callTy call_int1 rfl L.int PyProof.Rows.boot_int (pa_cons (pe_op op_add (pe_op op_mul (pv 5) (pv 5)) (pe_op op_mul (pv 3) pe_int)) pa_nil)) pe_int))
      (pss_one (ps_ret (pe_op op_mod (pe_callTy call_int1 rfl L.int PyProof.Rows.boot_int (pa_cons (pv 5) pa_nil)) (pv 1)))))))))), ?_⟩
    refine q_when (et_or (a := decide (m < 2)) (b := decide (V.int u = V.int 0)) (et_test (ev_op (ev_var rfl) ev_c rv_I0)) fun _ => et_test (ev_op (ev_op (ev_var rfl) ev_c (ix0 ha)) ev_c (rv_eq rfl))) (fun hb H1 e => ?_) fun hb H1 e => ?_
    · exact s_ret ev_c fun H2 e2 => k 0 H2 (by decide) (.inr rfl) (.of (e.trans e2)) (S0 H2 (e.trans e2))
    rw [Bool.or_eq_false_iff] at hb
    have m2 : 2 ≤ m := by have := of_decide_eq_false hb.1; omega
    have ha1 := e _ _ ha
    refine q_when (et_test (ev_op (ev_op (ev_var rfl) ev_c (ix1 ha1)) ev_c rv_I0)) (fun hc H2 e2 => ?_) fun hc H2 e2 => ?_
    · have ha2 := e2 _ _ ha1
      refine q_asg (ev_op (ev_int (ev_op (ev_var rfl) ev_c (ix0 ha2))) (ev_var rfl) (rv_I (show (0 : Int) < m by omega))) fun H3 e3 => ?_
      have ha3 := e3 _ _ ha2
      refine q_setL (j := 0) ha3 (ev_op (ev_op (ev_var rfl) ev_c (ix0 ha3)) (ev_var rfl) (rv_I ⟨by omega, by omega⟩)) (ev_var rfl) ev_c (by show 0 < 2; decide) fun H4 e4 => ?_
      refine s_ret (ev_var rfl) fun H5 e5 => k (u % m) H5 (Int.emod_nonneg _ (by omega)) (.inl (Int.emod_lt_of_pos _ (by omega))) ?_ ?_
      · exact ((ExB.of (((e.trans e2).trans e3).trans e4)).trans .upd).trans (.of e5)
      · exact ⟨u / m, v, e5 _ _ upd_same, v1, by omega⟩
    · have v0 : 0 ≤ v := by have := of_decide_eq_false hc; omega
      have ha2 := e2 _ _ ha1
      refine q_setL (j := 1) ha2 (ev_op (ev_op (ev_var rfl) ev_c (ix1 ha2)) ev_c rv_I0) (ev_var rfl) ev_c (by show 1 < 2; decide) fun H3 e3 => ?_
      have hb3 : (upd H3 a (.lst [.int u, .int (v + 1)])) a = some (.lst [.int u, .int (v + 1)]) := upd_same
      have B3 : ExB a H (upd H3 a (.lst [.int u, .int (v + 1)])) := (ExB.of ((e.trans e2).trans e3)).trans .upd
      show tSeq _ _ _ _ (upd H3 a (.lst [.int u, .int (v + 1)]))
      generalize upd H3 a (.lst [.int u, .int (v + 1)]) = G3 at hb3 B3
      refine q_asg (ev_op (ev_var rfl) ev_c (ix1 hb3)) fun H4 e4 => ?_
      refine q_asgL (el_lst (vs := [.int 48271, .int 10007, .int 69997, .int 30011, .int 90001, .int 20011, .int 50021]) (ea_cons ev_c (ea_cons ev_c (ea_cons ev_c (ea_cons ev_c (ea_cons ev_c (ea_cons ev_c (ea_cons ev_c ea_nil))))))) (by show 7 ≤ 100000; decide)) fun p H5 _ e5 h5 => ?_
      have ha5 := e5 _ _ (e4 _ _ hb3)
      obtain ⟨z, hz, z0, z1⟩ := prime_at ((v + 1) % 7) (Int.emod_nonneg _ (by decide)) (Int.emod_lt_of_pos _ (by decide))
      refine q_asg (ev_op (ev_int (ev_op (ev_op (ev_op (ev_var rfl) ev_c (ix0 ha5)) (ev_op (ev_var rfl) (ev_op (ev_int (ev_var rfl)) ev_c (rv_I (by decide))) (rv_ixL (sq_of h5) hz)) (rv_I (.inr ⟨by omega, by omega⟩)))
        (ev_op (ev_op (ev_var rfl) (ev_var rfl) (rv_I (.inl ⟨by omega, by omega⟩))) ev_c (rv_I (.inr ⟨by decide, by decide⟩))) rv_I0)) ev_c (rv_I (by decide))) fun H6 e6 => ?_
      generalize hx : (u * z + (v + 1) * (v + 1) * 7919) % 2147483647 = x
      have x0 : 0 ≤ x := by rw [← hx]; exact Int.emod_nonneg _ (by decide)
      have x1 : x < 2147483647 := by rw [← hx]; exact Int.emod_lt_of_pos _ (by decide)
      refine q_asg (ev_op (ev_int (ev_op (ev_op (ev_var rfl) (ev_var rfl) (rv_I (.inl ⟨by omega, by omega⟩))) (ev_op (ev_var rfl) ev_c (rv_I (.inr ⟨by decide, by decide⟩))) rv_I0)) ev_c (rv_I (by decide))) fun H7 e7 => ?_
      refine s_ret (ev_op (ev_int (ev_var rfl)) (ev_var rfl) (rv_I (show (0 : Int) < m by omega))) fun H8 e8 => k _ H8 (Int.emod_nonneg _ (by omega)) (.inl (Int.emod_lt_of_pos _ (by omega))) (B3.trans (.of ((((e4.trans e5).trans e6).trans e7).trans e8))) ?_
      exact ⟨u, v + 1, e8 _ _ (e7 _ _ (e6 _ _ ha5)), by omega, by omega⟩
end

/-- te draws k times at most from the pair at a and gives a value of R; G: what stays -/
def EvD (te : TE) (σ : L2.St) (G : Hp) (a : Addr) (k : Nat) (R : V → Prop) : Prop := ∀ n H1, Ex G H1 → Src H1 a n → n + k ≤ 2 ^ 40 → ∀ Q : VK, (∀ v H2, R v → Ex G H2 → ExB a H1 H2 → Src H2 a (n + k) → Q v H2) → te σ H1 Q
def EvTD (tt : TT) (σ : L2.St) (G : Hp) (a : Addr) (k : Nat) (R : Bool → Prop) : Prop := ∀ n H1, Ex G H1 → Src H1 a n → n + k ≤ 2 ^ 40 → ∀ Q : Bool → Hp → Prop, (∀ b H2, R b → Ex G H2 → ExB a H1 H2 → Src H2 a (n + k) → Q b H2) → tt σ H1 Q
section
variable {K : PySem.W.Frag} {σ : L2.St} {G : Hp} {a : Addr} {k k1 k2 : Nat} {R R1 R2' : V → Prop} {ta tb te : TE} {D : Ends} {tz tu tw : TS} {tt : TT}
theorem ed_of {v : V} (h : Ev te σ G v) : EvD te σ G a 0 (fun u => u = v) := fun n H1 e s hn Q q => h H1 e Q fun H2 e2 => q v H2 rfl (e.trans e2) (.of e2) (s.mono e2)
theorem EvD.imp (h : EvD te σ G a k R1) (i : ∀ v, R1 v → R v) : EvD te σ G a k R := fun n H1 e s hn Q q => h n H1 e s hn Q fun v H2 r => q v H2 (i v r)
theorem EvD.more (h : EvD te σ G a k1 R) (hk : k1 ≤ k) : EvD te σ G a k R := fun n H1 e s hn Q q => h n H1 e s (by omega) Q fun v H2 r e2 b2 s2 => q v H2 r e2 b2 (s2.more (by omega))
theorem ed_op {r : R2} (ha : EvD ta σ G a k1 R1) (hb : ∀ x, R1 x → EvD tb σ G a k2 R2') (hr : ∀ x y, R1 x → R2' y → ∃ z, R z ∧ RV r x y G z) : EvD (tOp r ta tb) σ G a (k1 + k2) R := fun n H1 e s hn Q q =>
  ha n H1 e s (by omega) _ fun x H2 rx e2 b2 s2 => hb x rx (n + k1) H2 e2 s2 (by omega) _ fun y H3 ry e3 b3 s3 => by
    obtain ⟨z, rz, h⟩ := hr x y rx ry
    exact h H3 e3 Q fun H4 e4 => q z H4 rz (e3.trans e4) ((b2.trans b3).trans (.of e4)) (by rw [← Nat.add_assoc]; exact s3.mono e4)
theorem etd_test {Rb : Bool → Prop} (h : EvD te σ G a k (fun v => ∃ b, v = .bl b ∧ Rb b)) : EvTD (tTest te) σ G a k Rb := fun n H1 e s hn Q q => h n H1 e s hn _ fun v H2 r e2 b2 s2 => by
  obtain ⟨b, rfl, rb⟩ := r
  exact ⟨b, rfl, q b H2 rb e2 b2 s2⟩
/-- a def that draws -/
theorem ed_call {sp : Sp} {vs : List V} {E : XK} {tA : TA} (h : EvA tA σ G vs) (hs : ∀ n H1, Ex G H1 → Src H1 a n → n + k ≤ 2 ^ 40 → ∀ Q : VK, (∀ v H2, R v → ExB a H1 H2 → Src H2 a (n + k) → Q v H2) → ∀ E, sp vs H1 Q E) (na : G a = none) : EvD (tCall sp [] E tA) σ G a k R := fun n H1 e s hn Q q =>
  h H1 e _ fun H2 e2 => by
    rw [List.append_nil]
    exact hs n H2 (e.trans e2) (s.mono e2) hn Q (fun v H3 r b3 s3 => q v H3 r (b3.base (e.trans e2) na) ((ExB.of e2).trans b3) s3) E
/-- a draw -/
def Rdraw (m : Int) (v : V) : Prop := ∃ r : Int, v = .int r ∧ 0 ≤ r ∧ (r < m ∨ r = 0)
theorem ed_draw {i : Nat} {m : Int} {E : XK} (hs : σ[i]? = some (some (.ref a))) (h : Ev te σ G (.int m)) (hm : m < 2 ^ 29) (na : G a = none) : EvD (tCall spDraw [] E (tCons (tVar i) (tCons te tNil))) σ G a 1 (Rdraw m) :=
  ed_call (ea_cons (ev_var hs) (ea_cons h ea_nil)) (fun n H1 e s hn Q q E => ⟨a, m, n, rfl, s, by omega, hm, fun r H2 r0 r1 b2 s2 => q _ H2 ⟨r, rfl, r0, r1⟩ b2 s2⟩) na
theorem q_asgD {i n : Nat} {H1 : Hp} (h : EvD te σ G a k R) (e : Ex G H1) (s : Src H1 a n) (hn : n + k ≤ 2 ^ 40) (q : ∀ v H2, R v → Ex G H2 → ExB a H1 H2 → Src H2 a (n + k) → tz D (σ.set i (some v)) H2) : tSeq (tAsg te (gName i)) tz D σ H1 := h n H1 e s hn _ fun v H2 r e2 b2 s2 => q v H2 r e2 b2 s2
theorem s_asgD {i n : Nat} {H1 : Hp} (h : EvD te σ G a k R) (e : Ex G H1) (s : Src H1 a n) (hn : n + k ≤ 2 ^ 40) (q : ∀ v H2, R v → Ex G H2 → ExB a H1 H2 → Src H2 a (n + k) → D.nx (σ.set i (some v)) H2) : tAsg te (gName i) D σ H1 := h n H1 e s hn _ fun v H2 r e2 b2 s2 => q v H2 r e2 b2 s2
theorem s_retD {n : Nat} {H1 : Hp} (h : EvD te σ G a k R) (e : Ex G H1) (s : Src H1 a n) (hn : n + k ≤ 2 ^ 40) (q : ∀ v H2, R v → Ex G H2 → ExB a H1 H2 → Src H2 a (n + k) → D.rt v H2) : tRet te D σ H1 := h n H1 e s hn _ fun v H2 r e2 b2 s2 => q v H2 r e2 b2 s2
theorem q_whenD {n : Nat} {H1 : Hp} {Rb : Bool → Prop} (h : EvTD tt σ G a k Rb) (e : Ex G H1) (s : Src H1 a n) (hn : n + k ≤ 2 ^ 40) (h1 : ∀ H2, Rb true → Ex G H2 → ExB a H1 H2 → Src H2 a (n + k) → tu { D with nx := tz D } σ H2)
    (h2 : ∀ H2, Rb false → Ex G H2 → ExB a H1 H2 → Src H2 a (n + k) → tz D σ H2) : tSeq (tIfS tt tu tNext) tz D σ H1 := h n H1 e s hn _ fun b H2 r e2 b2 s2 => by
  cases b with
  | true => exact h1 H2 r e2 b2 s2
  | false => exact h2 H2 r e2 b2 s2
end
/-- the ground of a heap: all but a -/
def off (H : Hp) (a : Addr) : Hp := fun b => if b = a then none else H b
theorem off_none {H : Hp} {a : Addr} : off H a a = none := if_pos rfl
theorem off_ex {H : Hp} {a : Addr} : Ex (off H a) H := fun b o z => by
  unfold off at z
  split at z
  · cases z
  · exact z
theorem off_b {H H' : Hp} {a : Addr} (e : Ex (off H a) H') : ExB a H H' := fun b o n z => e b o (by unfold off; rw [if_neg n]; exact z)
theorem off_at {H : Hp} {a b : Addr} {o : HO} (n : b ≠ a) (h : H b = some o) : off H a b = some o := by
  unfold off; rw [if_neg n]; exact h
section
variable {P : Program} {w : World} {K : PySem.W.Frag} {mg : PySem.Str → Option Value} {base : Heap} {f f1 f2 : Addr} {fd fd1 fd2 : FuncData}
/-- a def that draws k times at most from the pair it is handed, with further values ws -/
def spD (ws : List V) (k : Nat) (R : V → Prop) (vs : List V) (H : Hp) (Q : VK) : Prop := ∃ (a : Addr) (n : Nat), vs = .ref a :: ws ∧ Src H a n ∧ n + k ≤ 2 ^ 40 ∧ ∀ v H2, R v → ExB a H H2 → Src H2 a (n + k) → Q v H2
def Rsize (m : Int) (v : V) : Prop := ∃ r : Int, v = .int r ∧ 1 ≤ r ∧ r ≤ m
def spSize : Sp := fun vs H Q _ => ∃ u m : Int, 1 ≤ u ∧ u ≤ m ∧ m < 2 ^ 29 ∧ spD [.int u, .int m] 2 (Rsize m) vs H Q
theorem scSize : FnScope ["_law_source_here", "_law_usual", "_law_most"] ["_law_source_here", "_law_usual", "_law_most"] (defScope s_size) := ⟨rfl, rfl, rfl, by decide +kernel, rfl, by decide +kernel, by decide +kernel⟩
theorem ok_size (D : Dat K mg "_law_size" s_size ["_law_source_here", "_law_usual", "_law_most"] f fd) (D1 : Dat K mg "_law_draw" s_draw ["_law_source_here", "_law_many"] f1 fd1) (G1 : FnOk P w K mg base (L2.CX P w) 1 f1 fd1 ["_law_source_here", "_law_many"] spDraw) :
    FnOk P w K mg base (L2.CX P w) 2 f fd ["_law_source_here", "_law_usual", "_law_most"] spSize := by
  refine D.F.okX scSize (fun vs H Q E h => ?_) (fun cdv A outer s H vs Q E hr h => ?_)
  · obtain ⟨u, m, _, _, _, a, n, rfl, _⟩ := h
    rfl
  · obtain ⟨u, m, hu, hum, hm, a, n, rfl, hs, hn, q⟩ := h
    refine ⟨_, pss_cons (ps_if (pt_cmpR op_eq (pe_call G1 hr rfl D1.g D1.k D1.b .nil pas0 (pa_cons (pv 0) (pa_cons pe_int pa_nil))) pe_int (nomark _)) (pss_one (ps_ret (pe_op op_add pe_int (pe_call G1 hr rfl D1.g D1.k D1.b .nil pas0 (pa_cons (pv 0) (pa_cons (pv 2) pa_nil)))))) pss_nil)
      (pss_one (ps_ret (pe_op op_add pe_int (pe_call G1 hr rfl D1.g D1.k D1.b .nil pas0 (pa_cons (pv 0) (pa_cons (pv 1) pa_nil)))))), ?_⟩
    have na : off H a a = none := off_none
    have plus : ∀ (c : Int) (j : Nat), 1 ≤ c → c ≤ m → (start ["_law_source_here", "_law_usual", "_law_most"] [.ref a, .int u, .int m])[j]? = some (some (.int c)) → EvD (tOp (rI0 fun i j => .int (i + j)) (tC (.int 1)) (tCall spDraw [] E0 (tCons (tVar 0) (tCons (tVar j) tNil)))) (start ["_law_source_here", "_law_usual", "_law_most"] [.ref a, .int u, .int m]) (off H a) a (0 + 1) (Rsize m) := fun c j c1 c2 hj =>
      ed_op (ed_of ev_c) (fun _ _ => ed_draw rfl (ev_var hj) (by omega) na) fun x y rx ⟨r, ry, r0, r1⟩ => by
        subst rx ry
        exact ⟨_, ⟨1 + r, rfl, by omega, by omega⟩, rv_I0⟩
    refine q_whenD (G := off H a) (a := a) (k := 1) (n := n) (Rb := fun _ => True) (etd_test (ed_op (k1 := 1) (k2 := 0) (ed_draw rfl ev_c (by decide) na) (fun _ _ => ed_of ev_c) fun x y rx ry => ?_)) off_ex hs (by omega) (fun H2 _ e2 b2 s2 => ?_) fun H2 _ e2 b2 s2 => ?_
    · obtain ⟨r, rfl, _⟩ := rx
      subst ry
      exact ⟨_, ⟨_, rfl, trivial⟩, rv_eq rfl⟩
    · exact s_retD (plus m 2 (by omega) (by omega) rfl) e2 s2 (by omega) fun v H3 r e3 b3 s3 => q v H3 r (b2.trans b3) s3
    · exact s_retD (plus u 1 hu hum rfl) e2 s2 (by omega) fun v H3 r e3 b3 s3 => q v H3 r (b2.trans b3) s3
end
end Z
end
/-! Z11 -/
set_option linter.all false
set_option maxRecDepth 100000
set_option maxHeartbeats 4000000
noncomputable section
namespace Z
open PySem PySem.Spec PyProof.Rows L2 PySem.Froz Evl TS

theorem Ris.mono {T : List Nat} (R : Ris T) : ∀ {i j : Nat}, i ≤ j → j < T.length → T.getD i 0 ≤ T.getD j 0
  | i, 0, h, _ => by
    have : i = 0 := by omega
    subst this; exact Nat.le_refl _
  | i, j + 1, h, hj => by
    rcases Nat.lt_or_ge i (j + 1) with h1 | h1
    · exact Nat.le_trans (Ris.mono R (i := i) (j := j) (by omega) (by omega)) (R.up j hj)
    · have : i = j + 1 := by omega
      subst this; exact Nat.le_refl _
/-- the last place with at most c -/
theorem back_eq {T : List Nat} {c b : Nat} (g : Grd T) (hb : b < T.length) (h1 : T.getD b 0 ≤ c) (h2 : ∀ d, d < T.length → T.getD d 0 ≤ c → d ≤ b) : thr T (c + 1) - 1 = b := by
  have below : ∀ j, j < b + 1 → T.getD j 0 < c + 1 := fun j hj => by
    have := g.ris.mono (i := j) (j := b) (by omega) hb
    omega
  rcases Nat.lt_or_ge (b + 1) T.length with h | h
  · rw [thr_at (k := b + 1) h below ?_]
    · rfl
    · rcases Nat.lt_or_ge c (T.getD (b + 1) 0) with z | z
      · exact z
      · have := h2 (b + 1) h z
        omega
  · rw [thr_end fun j hj => below j (by omega)]
    omega
theorem nv_snoc (ns : List Nat) (k : Nat) : nv (ns ++ [k]) = nv ns ++ [V.int (k : Int)] := by simp [nv]
theorem range_snoc {g : Nat → Nat} {i : Nat} : (List.range (i + 1)).map g = (List.range i).map g ++ [g i] := by rw [List.range_succ, List.map_append]; rfl
section
variable {P : Program} {w : World} {K : PySem.W.Frag} {mg : PySem.Str → Option Value} {base : Heap} {f f1 f2 : Addr} {fd fd1 fd2 : FuncData}
theorem ei_lenN {σ : L2.St} {H : Hp} {te : TE} {a : Addr} {ns : List Nat} (h : Ev te σ H (.ref a)) (hx : SqL K H a (nv ns)) (hz : ns.length ≤ 3000) : EvI (iRng1 (tCons (tCB (rLenS K) (tCons te tNil)) tNil)) σ H (nums 0 ns.length) := by
  have z := ei_rng1 (ea_lenL (K := K) (n := (ns.length : Int)) h hx (by simp)) (by omega) (by omega)
  rwa [Int.toNat_natCast] at z
/-! ### _law_back -/
abbrev s_lback : Stmt := top 59
abbrev nLB : List PySem.Str := ["_law_table", "_law_back_here", "_law_c", "_law_last", "_law_d"]
theorem scLB : FnScope nLB ["_law_table"] (defScope s_lback) := ⟨rfl, rfl, rfl, by decide +kernel, rfl, by decide +kernel, by decide +kernel⟩
def spLB (K : PySem.W.Frag) : Sp := fun vs H Q _ => ∃ (a : Addr) (T : List Nat), vs = [.ref a] ∧ SqL K H a (nv T) ∧ Grd T ∧ RetL (nv (backT T)) H Q
theorem ok_lback (W : Wd mg) (D : Dat K mg "_law_back" s_lback ["_law_table"] f fd) : FnOk P w K mg base (L2.CX P w) 1 f fd ["_law_table"] (spLB K) := by
  refine D.F.okX scLB (fun vs H Q E h => ?_) (fun cdv A outer s H vs Q E hr h => ?_)
  · obtain ⟨a, T, rfl, _⟩ := h
    rfl
  · obtain ⟨a, T, rfl, ha, g, k⟩ := h
    refine ⟨_, pss_cons (ps_set (i := 1) scLB.nd rfl (Or.inl rfl) (pe_lst pa_nil))
      (pss_cons (ps_for (passes_of rfl) rfl (pi_range1 rfl W.range (pa_cons (pe_callB call_len_seq (by rfl) W.len PySem.boot_len (pa_cons (pv 0) pa_nil)) pa_nil)) (pg_name (i := 2) scLB.nd rfl (Or.inl rfl))
        (pss_cons (ps_set (i := 3) scLB.nd rfl (Or.inl rfl) pe_int)
        (pss_cons (ps_for (passes_of rfl) rfl (pi_range1 rfl W.range (pa_cons (pe_callB call_len_seq (by rfl) W.len PySem.boot_len (pa_cons (pv 0) pa_nil)) pa_nil)) (pg_name (i := 4) scLB.nd rfl (Or.inl rfl))
          (pss_one (ps_if (pt_cmpR op_le (pe_ix ix_list (pv 0) (pv 4) (fun _ _ => rfl)) (pv 2) (nomark _)) (pss_one (ps_set (i := 3) scLB.nd rfl (Or.inl rfl) (pv 4))) pss_nil)))
        (pss_one (ps_expr (pe_bm PySem.F.plainAttrs_list PySem.F.slot_list_append PySem.F.type_list_append mt_append (pv 1) (pa_cons (pv 3) pa_nil)))))))
      (pss_one (ps_ret (pv 1)))), ?_⟩
    have hz := g.len
    have h0 := g.ris.pos
    refine q_asgL (el_lst (vs := []) ea_nil (by decide)) fun l H1 hl e1 h1 => ?_
    refine q_forN (H := H) (ei_lenN (ns := T) (ev_var rfl) ha (by omega)) e1 (fun i σ' H' => (∃ v1 v2 v3 : Option V, σ' = [some (.ref a), some (.ref l), v1, v2, v3] ∧ H' l = some (.lst (nv ((List.range i).map fun c => thr T (c + 1) - 1)))) ∧ Ex H H') (fun H2 e2 => ⟨⟨none, none, none, rfl, e2 _ _ h1⟩, e1.trans e2⟩) ?_ ?_
    · rintro G i y σ' H' eG nG eG' hy ⟨⟨v1, v2, v3, rfl, hL⟩, eH⟩
      have nGl : G l = none := nG l hl (by rw [h1]; exact fun z => nomatch z)
      obtain ⟨hi, rfl⟩ := nums_at hy
      rw [Int.zero_add]
      refine q_asg ev_c fun H2 e2 => ?_
      refine q_forI (H := H2) (ei_lenN (ns := T) (ev_var rfl) (ex_l (eH.trans e2) ha) (by omega)) (Ex.refl H2) (fun _ d σ' H' => (∃ (b : Nat) (v3 : Option V), σ' = [some (.ref a), some (.ref l), some (.int (i : Int)), some (.int (b : Int)), v3] ∧ b < T.length ∧ T.getD b 0 ≤ i ∧ ∀ j, j < d → T.getD j 0 ≤ i → j ≤ b) ∧ Ex H2 H')
        (fun _ H3 _ e3 _ => ⟨⟨0, _, rfl, h0, by rw [g.zero]; exact Nat.zero_le _, fun j hj => absurd hj (Nat.not_lt_zero j)⟩, e3⟩) ?_ ?_
      · rintro G2 d x σ3 H3 eG2 eG2' hx ⟨⟨b, v3, rfl, hb, hbi, hmax⟩, e3⟩
        obtain ⟨hd, rfl⟩ := nums_at hx
        have ha3 := ex_l ((eH.trans e2).trans e3) ha
        refine s_when (ev_ltI (g := fun i j => decide (i ≤ j)) (ev_atN (ns := T) (k := d) (ev_var rfl) (ev_is (ev_var rfl) (by rw [Int.zero_add])) ha3 hd) (ev_var rfl)) (fun hc H4 e4 => ?_) fun hc H4 e4 => ?_
        · have hle : T.getD d 0 ≤ i := by have := of_decide_eq_true hc; omega
          exact s_asg (ev_var rfl) fun H5 e5 => ⟨(eG2'.trans e4).trans e5, ⟨d, _, by rw [Int.zero_add]; rfl, hd, hle, fun j hj _ => by omega⟩, (e3.trans e4).trans e5⟩
        · have hgt : ¬ T.getD d 0 ≤ i := by have := of_decide_eq_false hc; omega
          exact ⟨eG2'.trans e4, ⟨b, _, rfl, hb, hbi, fun j hj hj2 => (Nat.lt_succ_iff_lt_or_eq.mp hj).elim (fun z => hmax j z hj2) fun z => absurd (z ▸ hj2) hgt⟩, e3.trans e4⟩
      · rintro G2 σ3 H3 eG2 eG2' ⟨⟨b, v3, rfl, hb, hbi, hmax⟩, e3⟩
        rw [nums_len] at hmax
        have e23 := e2.trans e3
        refine s_app (e23 _ _ hL) (ev_var rfl) (ev_var rfl) (by simp; omega) fun H4 e4 => ⟨Ex.mut ((eG'.trans e23).trans e4) nGl, ⟨_, _, _, rfl, ?_⟩, Ex.mut ((eH.trans e23).trans e4) hl⟩
        rw [upd_same, range_snoc, nv_snoc, back_eq g hb hbi fun d hd => hmax d hd]
    · rintro σ' H' eH' ⟨⟨v1, v2, v3, rfl, hL⟩, eH⟩
      rw [nums_len] at hL
      exact s_ret (ev_var rfl) fun H2 e2 => k l H2 hl (eH.trans e2) (e2 _ _ hL)
/-! ### _law_is_integer, _law_same_steps -/
theorem bt_int : bootBuiltins "int" = some (.type "int") := by decide +kernel
theorem bt_bool : bootBuiltins "bool" = some (.type "bool") := by decide +kernel
theorem bt_list : bootBuiltins "list" = some (.type "list") := by decide +kernel
theorem ty_list {H : Hp} {a : Addr} {xs : List V} (h : SqL K H a xs) : TyX K H (.ref a) (.type "list") := by
  rcases h with (h | ⟨o, h⟩) | ⟨o, its, n, h, hc, _⟩
  · exact .base (.lst h)
  · exact .base (.frz h)
  · exact .kList h hc
theorem ty_int {H : Hp} {i : Int} : TyX K H (.int i) (.type "int") := .base (.int i)
theorem ev_isi {σ : L2.St} {H : Hp} {ta tb : TE} {x c : V} {t u : Value} {b : Bool} (ha : Ev ta σ H x) (hb : Ev tb σ H c) (k : ClsV c u) (ty : ∀ H1, Ex H H1 → TyX K H1 x t) (e : PySem.W.kitOne K t u = some b) : Ev (tCB (rIsi K) (tCons ta (tCons tb tNil))) σ H (.bl b) := fun H1 e1 Q q =>
  ha H1 e1 _ fun H2 e2 => hb H2 (e1.trans e2) _ fun H3 e3 => ⟨x, c, t, u, b, rfl, k, ty H3 ((e1.trans e2).trans e3), e, q H3 (e2.trans e3)⟩
abbrev s_isint : Stmt := top 61
def spIsInt : Sp := fun vs H Q _ => ∃ i : Int, vs = [.int i] ∧ RetV (.bl true) H Q
theorem scIsInt : FnScope ["_law_actual"] ["_law_actual"] (defScope s_isint) := ⟨rfl, rfl, rfl, by decide +kernel, rfl, by decide +kernel, by decide +kernel⟩
theorem ok_isint (L : Lb mg) (D : Dat K mg "_law_is_integer" s_isint ["_law_actual"] f fd) : FnOk P w K mg base (L2.CX P w) 1 f fd ["_law_actual"] spIsInt := by
  refine D.F.okX scIsInt (fun vs H Q E h => ?_) (fun cdv A outer s H vs Q E hr h => ?_)
  · obtain ⟨i, rfl, _⟩ := h
    rfl
  · obtain ⟨i, rfl, k⟩ := h
    refine ⟨_, pss_one (ps_ret (pe_and (pe_callB call_isi (by rfl) L.isi boot_isinstance (pa_cons (pv 0) (pa_cons (pe_bltn (v := .ty "int") rfl L.int bt_int rfl) pa_nil))) (pe_one (pe_not (pe_callB call_isi (by rfl) L.isi boot_isinstance (pa_cons (pv 0) (pa_cons (pe_bltn (v := .ty "bool") rfl L.bool bt_bool rfl) pa_nil))))))), ?_⟩
    refine s_ret (v := .bl true) (ev_is (ev_andV (a := true) (b := true) (ev_isi (K := K) (ev_var rfl) ev_c (.ty "int") (fun H1 e => ty_int) (kit_ty (r := true) (by decide +kernel))) fun _ => ev_is (ev_notV (a := false) (ev_isi (K := K) (ev_var rfl) ev_c (.ty "bool") (fun H1 e => ty_int) (kit_ty (r := false) (by decide +kernel)))) rfl) rfl) fun H1 e => k H1 e
end
end Z
end
/-! Z12 -/
set_option linter.all false
set_option maxRecDepth 100000
set_option maxHeartbeats 4000000
noncomputable section
namespace Z
open PySem PySem.Spec PyProof.Rows L2 PySem.Froz Evl TS

/-- the round looks at c -/
def rndAt (T : List Nat) (up : Bool) (c : Nat) : Bool := (if up then decide (c ≤ T.getD c 0) else decide (T.getD c 0 ≤ c)) && decide (T.getD (T.getD c 0) 0 = T.getD c 0)
def roundsB (T : List Nat) (up : Bool) : Bool := (List.range T.length).all (rndAt T up)
def upT (M : List Nat) (n : Nat) : List Nat := (List.range n).map fun c => M.foldr (fun m acc => if c ≤ m then m else acc) (n - 1)
def dnT (M : List Nat) (n : Nat) : List Nat := (List.range n).map fun c => M.foldl (fun acc m => if m ≤ c then m else acc) 0
theorem range_at {g : Nat → Nat} {n c : Nat} (h : c < n) : ((List.range n).map g).getD c 0 = g c := by simp [List.getD_eq_getElem?_getD, h]
section
variable {P : Program} {w : World} {K : PySem.W.Frag} {mg : PySem.Str → Option Value} {base : Heap} {f f1 f2 : Addr} {fd fd1 fd2 : FuncData}
theorem sv_isint {i : Int} {H : Hp} : SpV spIsInt [.int i] H (.bl true) := fun H1 e Q q E => ⟨i, rfl, fun H2 e2 => q H2 e2⟩
/-! ### _law_same_steps -/
abbrev s_same : Stmt := top 62
abbrev nSame : List PySem.Str := ["_law_actual", "_law_due", "_law_k"]
def spSame (K : PySem.W.Frag) : Sp := fun vs H Q _ => ∃ (a b : Addr) (U : List Nat), vs = [.ref a, .ref b] ∧ SqL K H a (nv U) ∧ SqL K H b (nv U) ∧ U.length ≤ 1000 ∧ RetV (.bl true) H Q
theorem scSame : FnScope nSame ["_law_actual", "_law_due"] (defScope s_same) := ⟨rfl, rfl, rfl, by decide +kernel, rfl, by decide +kernel, by decide +kernel⟩
theorem ok_same (W : Wd mg) (L : Lb mg) (D : Dat K mg "_law_same_steps" s_same ["_law_actual", "_law_due"] f fd) (D1 : Dat K mg "_law_is_integer" s_isint ["_law_actual"] f1 fd1) (G1 : FnOk P w K mg base (L2.CX P w) 1 f1 fd1 ["_law_actual"] spIsInt) : FnOk P w K mg base (L2.CX P w) 2 f fd ["_law_actual", "_law_due"] (spSame K) := by
  refine D.F.okX scSame (fun vs H Q E h => ?_) (fun cdv A outer s H vs Q E hr h => ?_)
  · obtain ⟨a, b, U, rfl, _⟩ := h
    rfl
  · obtain ⟨a, b, U, rfl, hA, hB, hz, q⟩ := h
    refine ⟨_, pss_cons (ps_if (PW.pt (pw_or (pt_not (pt_val (pe_callB call_isi (by rfl) L.isi boot_isinstance (pa_cons (pv 0) (pa_cons (pe_bltn (v := .ty "list") rfl L.list bt_list rfl) pa_nil))))) (pw_or1 (pt_cmpR op_ne (pe_callB call_len_seq (by rfl) W.len PySem.boot_len (pa_cons (pv 0) pa_nil)) (pe_callB call_len_seq (by rfl) W.len PySem.boot_len (pa_cons (pv 1) pa_nil)) (nomark _))))) (pss_one (ps_ret pe_bl)) pss_nil)
      (pss_cons (ps_for (passes_of rfl) rfl (pi_range1 rfl W.range (pa_cons (pe_callB call_len_seq (by rfl) W.len PySem.boot_len (pa_cons (pv 1) pa_nil)) pa_nil)) (pg_name (i := 2) scSame.nd rfl (Or.inl rfl))
        (pss_one (ps_if (PW.pt (pw_or (pt_not (pt_val (pe_call G1 hr rfl D1.g D1.k D1.b .nil pas0 (pa_cons (pe_ix ix_list (pv 0) (pv 2) (fun _ _ => rfl)) pa_nil)))) (pw_or1 (pt_cmpR op_ne (pe_ix ix_list (pv 0) (pv 2) (fun _ _ => rfl)) (pe_ix ix_list (pv 1) (pv 2) (fun _ _ => rfl)) (nomark _))))) (pss_one (ps_ret pe_bl)) pss_nil)))
      (pss_one (ps_ret pe_bl))), ?_⟩
    refine q_when (b := false) (et_is (et_or (a := false) (b := false) (et_is (et_not (et_B (ev_isi (K := K) (ev_var rfl) ev_c (.ty "list") (fun H1 e => ty_list (ex_l e hA)) (kit_ty (r := true) (by decide +kernel))))) rfl) fun _ => et_is (ev_neI (ev_lenN' (ns := U) (ev_var rfl) hA) (ev_lenN' (ns := U) (ev_var rfl) hB)) (by simp)) rfl) (fun z => Bool.noConfusion z) fun _ H1 e => ?_
    refine q_forI (H := H) (ei_lenN (ns := U) (ev_var rfl) hB (by omega)) e (fun G i σ' H' => ∃ v, σ' = [some (.ref a), some (.ref b), v]) (fun G H2 _ _ _ => ⟨none, rfl⟩) ?_ ?_
    · rintro G i y σ' H' eG eG' hy ⟨v, rfl⟩
      obtain ⟨hi, rfl⟩ := nums_at hy
      rw [Int.zero_add]
      have e0 : Ex H H' := eG.trans eG'
      have ea : ∀ (j : Nat) (p : Addr), ([some (.ref a), some (.ref b), some (V.int (i : Int))] : L2.St)[j]? = some (some (.ref p)) → SqL K H p (nv U) → Ev (tOp (rIxL K) (tVar j) (tVar 2)) [some (.ref a), some (.ref b), some (.int (i : Int))] H' (.int (U.getD i 0 : Nat)) := fun j p hj hp => ev_atN (ev_var hj) (ev_var rfl) (ex_l e0 hp) hi
      refine s_when (b := false) (et_is (et_or (a := false) (b := false) (et_is (et_not (et_B (ev_call (z := .bl true) (ea_cons (ea 0 a rfl hA) ea_nil) sv_isint))) rfl) fun _ => et_is (ev_neI (ea 0 a rfl hA) (ea 1 b rfl hB)) (by simp)) rfl) (fun z => Bool.noConfusion z) fun _ H2 e2 => ⟨eG'.trans e2, _, rfl⟩
    · rintro G σ' H' eG eG' ⟨v, rfl⟩
      exact s_ret ev_c fun H2 e2 => q H2 ((eG.trans eG').trans e2)
theorem sv_same {a b : Addr} {U : List Nat} {H : Hp} (ha : SqL K H a (nv U)) (hb : SqL K H b (nv U)) (hz : U.length ≤ 1000) : SpV (spSame K) [.ref a, .ref b] H (.bl true) := fun H1 e Q q E => ⟨a, b, U, rfl, ex_l e ha, ex_l e hb, hz, fun H2 e2 => q H2 e2⟩
/-! ### _law_rounds -/
abbrev s_rounds : Stmt := top 63
abbrev nRnd : List PySem.Str := ["_law_table", "_law_upward_here", "_law_c"]
def spRnd (K : PySem.W.Frag) : Sp := fun vs H Q _ => ∃ (a : Addr) (U : List Nat) (up : Bool), vs = [.ref a, .bl up] ∧ SqL K H a (nv U) ∧ Tb U.length U ∧ U.length ≤ 1000 ∧ RetV (.bl (roundsB U up)) H Q
theorem scRnd : FnScope nRnd ["_law_table", "_law_upward_here"] (defScope s_rounds) := ⟨rfl, rfl, rfl, by decide +kernel, rfl, by decide +kernel, by decide +kernel⟩
theorem sv_rnd {a : Addr} {U : List Nat} {up : Bool} {H : Hp} (ha : SqL K H a (nv U)) (ht : Tb U.length U) (hz : U.length ≤ 1000) : SpV (spRnd K) [.ref a, .bl up] H (.bl (roundsB U up)) := fun H1 e Q q E => ⟨a, U, up, rfl, ex_l e ha, ht, hz, fun H2 e2 => q H2 e2⟩
theorem rounds_no {U : List Nat} {up : Bool} {c : Nat} (hc : c < U.length) (h : rndAt U up c = false) : roundsB U up = false := by
  unfold roundsB
  rw [List.all_eq_false]
  exact ⟨c, List.mem_range.mpr hc, by rw [h]; decide⟩
theorem rounds_yes {U : List Nat} {up : Bool} (h : ∀ c, c < U.length → rndAt U up c = true) : roundsB U up = true := by
  unfold roundsB
  rw [List.all_eq_true]
  exact fun c hc => h c (List.mem_range.mp hc)
theorem ok_rounds (W : Wd mg) (D : Dat K mg "_law_rounds" s_rounds ["_law_table", "_law_upward_here"] f fd) : FnOk P w K mg base (L2.CX P w) 1 f fd ["_law_table", "_law_upward_here"] (spRnd K) := by
  refine D.F.okX scRnd (fun vs H Q E h => ?_) (fun cdv A outer s H vs Q E hr h => ?_)
  · obtain ⟨a, U, up, rfl, _⟩ := h
    rfl
  · obtain ⟨a, U, up, rfl, hA, ht, hz, q⟩ := h
    refine ⟨_, pss_cons (ps_for (passes_of rfl) rfl (pi_range1 rfl W.range (pa_cons (pe_callB call_len_seq (by rfl) W.len PySem.boot_len (pa_cons (pv 0) pa_nil)) pa_nil)) (pg_name (i := 2) scRnd.nd rfl (Or.inl rfl))
        (pss_cons (ps_if (PW.pt (pw_or (PW.pt (pw_and (pt_val (pv 1)) (pw_and1 (pt_cmpR op_lt (pe_ix ix_list (pv 0) (pv 2) (fun _ _ => rfl)) (pv 2) (nomark _))))) (pw_or1 (PW.pt (pw_and (pt_not (pt_val (pv 1))) (pw_and1 (pt_cmpR op_gt (pe_ix ix_list (pv 0) (pv 2) (fun _ _ => rfl)) (pv 2) (nomark _)))))))) (pss_one (ps_ret pe_bl)) pss_nil)
        (pss_one (ps_if (pt_cmpR op_ne (pe_ix ix_list (pv 0) (pe_ix ix_list (pv 0) (pv 2) (fun _ _ => rfl)) (fun _ _ => rfl)) (pe_ix ix_list (pv 0) (pv 2) (fun _ _ => rfl)) (nomark _)) (pss_one (ps_ret pe_bl)) pss_nil))))
      (pss_one (ps_ret pe_bl)), ?_⟩
    refine q_forI (H := H) (ei_lenN (ns := U) (ev_var rfl) hA (by omega)) (Ex.refl H) (fun G i σ' H' => (∃ v, σ' = [some (.ref a), some (.bl up), v]) ∧ ∀ j, j < i → rndAt U up j = true) (fun G H2 _ _ _ => ⟨⟨none, rfl⟩, fun j hj => absurd hj (Nat.not_lt_zero j)⟩) ?_ ?_
    · rintro G i y σ' H' eG eG' hy ⟨⟨v, rfl⟩, hj⟩
      obtain ⟨hi, rfl⟩ := nums_at hy
      rw [Int.zero_add]
      have e0 : Ex H H' := eG.trans eG'
      have ea : ∀ {H2 : Hp}, Ex H H2 → Ev (tOp (rIxL K) (tVar 0) (tVar 2)) [some (.ref a), some (.bl up), some (.int (i : Int))] H2 (.int (U.getD i 0 : Nat)) := fun e => ev_atN (ev_var rfl) (ev_var rfl) (ex_l e hA) hi
      have hv : U.getD i 0 < U.length := ht.lt _ (getD_mem hi)
      refine q_when (b := if up then decide (U.getD i 0 < i) else decide (i < U.getD i 0)) (et_is (et_or (et_and (a := up) (b := decide (U.getD i 0 < i)) (et_B (ev_var rfl)) fun _ => et_is (ev_ltI (g := fun i j => decide (i < j)) (ea e0) (ev_var rfl)) (by simp)) fun _ => et_and (a := !up) (b := decide (i < U.getD i 0)) (et_not (et_B (ev_var rfl))) fun _ => et_is (ev_ltI (g := fun i j => decide (i > j)) (ea e0) (ev_var rfl)) (by simp)) (by cases up <;> simp)) (fun hb H2 e2 => ?_) fun hb H2 e2 => ?_
      · refine s_ret ev_c fun H3 e3 => ?_
        have z : roundsB U up = false := rounds_no hi (by
          unfold rndAt
          cases up with
          | true => have := of_decide_eq_true hb; rw [if_pos rfl, decide_eq_false (by omega), Bool.false_and]
          | false => have := of_decide_eq_true hb; rw [if_neg (by decide), decide_eq_false (by omega), Bool.false_and])
        rw [← z]
        exact q H3 ((e0.trans e2).trans e3)
      · refine s_when (b := !decide (U.getD (U.getD i 0) 0 = U.getD i 0)) (et_is (ev_neI (ev_atN (ns := U) (k := U.getD i 0) (ev_var rfl) (ea (e0.trans e2)) (ex_l (e0.trans e2) hA) hv) (ea (e0.trans e2))) (by congr 1; exact decide_eq_decide.mpr Int.ofNat_inj)) (fun hc H3 e3 => ?_) fun hc H3 e3 => ⟨(eG'.trans e2).trans e3, ⟨_, rfl⟩, fun j hj2 => ?_⟩
        · refine s_ret ev_c fun H4 e4 => ?_
          have z : roundsB U up = false := rounds_no hi (by unfold rndAt; rw [show decide (U.getD (U.getD i 0) 0 = U.getD i 0) = false by simpa using hc, Bool.and_false])
          rw [← z]
          exact q H4 (((e0.trans e2).trans e3).trans e4)
        · rcases Nat.lt_succ_iff_lt_or_eq.mp hj2 with h | h
          · exact hj j h
          · subst h
            unfold rndAt
            rw [show decide (U.getD (U.getD j 0) 0 = U.getD j 0) = true by simpa using hc, Bool.and_true]
            cases up with
            | true => have := of_decide_eq_false hb; rw [if_pos rfl]; exact decide_eq_true (by omega)
            | false => have := of_decide_eq_false hb; rw [if_neg (by decide)]; exact decide_eq_true (by omega)
    · rintro G σ' H' eG eG' ⟨⟨v, rfl⟩, hj⟩
      rw [nums_len] at hj
      refine s_ret ev_c fun H2 e2 => ?_
      rw [← rounds_yes hj]
      exact q H2 ((eG.trans eG').trans e2)
end
end Z
end
/-! Z13 -/
set_option linter.all false
set_option maxRecDepth 100000
set_option maxHeartbeats 4000000
noncomputable section
namespace Z
open PySem PySem.Spec PyProof.Rows L2 PySem.Froz Evl TS

/-! ### lists of numbers as data -/
def dN (U : List Nat) : PyData := .list (U.map fun (k : Nat) => PyData.int (k : Int))
theorem dps_nums {K : PySem.W.Frag} {H : Hp} : ∀ U : List Nat, DpAll K H (nv U) (U.map fun (k : Nat) => PyData.int (k : Int))
  | [] => .nil
  | k :: U => .cons (.int _) (dps_nums U)
theorem dp_nums {K : PySem.W.Frag} {H : Hp} {a : Addr} {U : List Nat} (h : SqL K H a (nv U)) : ∀ H1, Ex H H1 → Dp K H1 (.ref a) (dN U) := fun H1 e => .lst (ex_l e h) (dps_nums U)
theorem lay_nums : ∀ U : List Nat, PyData.canLayAll0 (U.map fun (k : Nat) => PyData.int (k : Int)) = true
  | [] => rfl
  | k :: U => by
    show (PyData.canLay0 (.int (k : Int)) && PyData.canLayAll0 (U.map fun (k : Nat) => PyData.int (k : Int))) = true
    rw [lay_nums U]; rfl
theorem depth_nums : ∀ U : List Nat, PyData.depthAll (U.map fun (k : Nat) => PyData.int (k : Int)) = 0
  | [] => by simp [PyData.depthAll]
  | k :: U => by
    have h := depth_nums U
    rw [List.map_cons, PyData.depthAll, h]
    simp [PyData.depth]
theorem shaped_nums (U : List Nat) : SeqAt.shaped (dN U) = true := by
  unfold SeqAt.shaped dN
  rw [Bool.and_eq_true]
  refine ⟨by simpa [PyData.canLay0] using lay_nums U, decide_eq_true ?_⟩
  show PyData.depthAll _ + 1 ≤ 64
  rw [depth_nums]
  decide
theorem eqvAll_nums : ∀ U V : List Nat, PyData.eqvAll (U.map fun (k : Nat) => PyData.int (k : Int)) (V.map fun (k : Nat) => PyData.int (k : Int)) = decide (U = V)
  | [], [] => by simp [PyData.eqvAll]
  | [], k :: V => by simp [PyData.eqvAll]
  | k :: U, [] => by simp [PyData.eqvAll]
  | k :: U, j :: V => by
    have ih := eqvAll_nums U V
    rw [List.map_cons, List.map_cons, PyData.eqvAll, ih]
    have e : PyData.eqv (.int (k : Int)) (.int (j : Int)) = decide (k = j) := by
      show ((k : Int) == (j : Int)) = _
      by_cases h : k = j
      · simp [h]
      · rw [decide_eq_false h]; simp [Int.ofNat_inj, h]
    rw [e]
    by_cases h1 : k = j <;> by_cases h2 : U = V <;> simp [h1, h2]
theorem eqv_nums (U V : List Nat) : PyData.eqv (dN U) (dN V) = decide (U = V) := by
  have h := eqvAll_nums U V
  unfold dN
  rw [PyData.eqv, h]
section
variable {K : PySem.W.Frag}
theorem rv_eqD {x y : V} {d e : PyData} {H : Hp} (hx : ∀ H1, Ex H H1 → Dp K H1 x d) (hy : ∀ H1, Ex H H1 → Dp K H1 y e) (sd : SeqAt.shaped d = true) (se : SeqAt.shaped e = true) : RV (rEqD K) x y H (.bl (PyData.eqv d e)) := fun H1 e1 Q q => ⟨d, e, hx H1 e1, hy H1 e1, sd, se, q H1 (Ex.refl H1)⟩
theorem rv_neD {x y : V} {d e : PyData} {H : Hp} (hx : ∀ H1, Ex H H1 → Dp K H1 x d) (hy : ∀ H1, Ex H H1 → Dp K H1 y e) (sd : SeqAt.shaped d = true) (se : SeqAt.shaped e = true) : RV (rNeD K) x y H (.bl (!PyData.eqv d e)) := fun H1 e1 Q q => ⟨d, e, hx H1 e1, hy H1 e1, sd, se, q H1 (Ex.refl H1)⟩
/-- a list of lists of numbers -/
theorem dp_rows {H : Hp} : ∀ {ys : List V} {W : List (List Nat)}, Rows H ys W → DpAll K H ys (W.map dN)
  | [], [], _ => .nil
  | [], _ :: _, h => by have := h.1; cases this
  | _ :: _, [], h => by have := h.1; cases this
  | y :: ys, U :: W, h => by
    obtain ⟨p, h1, h2⟩ := h.2 0 (by simp)
    have e : y = .ref p := by simpa using h1
    subst e
    refine .cons (.lst (sq_of h2) (dps_nums U)) (dp_rows ⟨by simpa using h.1, fun i hi => ?_⟩)
    obtain ⟨q, g1, g2⟩ := h.2 (i + 1) (by simpa using hi)
    exact ⟨q, by simpa using g1, by simpa using g2⟩
theorem lay_rows : ∀ W : List (List Nat), PyData.canLayAll0 (W.map dN) = true
  | [] => rfl
  | U :: W => by
    show (PyData.canLay0 (dN U) && PyData.canLayAll0 (W.map dN)) = true
    rw [lay_rows W, SeqAt.canLay_of_shaped (shaped_nums U)]; rfl
theorem depth_rows : ∀ W : List (List Nat), PyData.depthAll (W.map dN) ≤ 1
  | [] => by simp [PyData.depthAll]
  | U :: W => by
    have h := depth_rows W
    have e : (dN U).depth = 1 := by
      show PyData.depthAll _ + 1 = 1
      rw [depth_nums]
    rw [List.map_cons, PyData.depthAll, e]
    omega
theorem shaped_rows (W : List (List Nat)) : SeqAt.shaped (.list (W.map dN)) = true := by
  unfold SeqAt.shaped
  rw [Bool.and_eq_true]
  refine ⟨by simpa [PyData.canLay0] using lay_rows W, decide_eq_true ?_⟩
  show PyData.depthAll _ + 1 ≤ 64
  have := depth_rows W
  omega
theorem any_rows (U : List Nat) (W : List (List Nat)) : ((W.map dN).any fun z => PyData.eqv z (dN U)) = decide (U ∈ W) := by
  induction W with
  | nil => simp
  | cons V W ih =>
    rw [List.map_cons, List.any_cons, ih, eqv_nums]
    by_cases h : V = U
    · subst h; simp
    · have h' : ¬ U = V := fun z => h z.symm
      simp [h, h', List.mem_cons]
/-- x not in a list of lists -/
theorem rv_notInD {H : Hp} {x : V} {b : Addr} {U : List Nat} {ys : List V} {W : List (List Nat)} (hx : ∀ H1, Ex H H1 → Dp K H1 x (dN U)) (hb : SqL K H b ys) (hR : Rows H ys W) : RV (rNotInD K) x (.ref b) H (.bl (!decide (U ∈ W))) := fun H1 e1 Q q =>
  ⟨dN U, W.map dN, hx H1 e1, .lst (ex_l e1 hb) (dp_rows (hR.mono e1)), shaped_nums U, shaped_rows W, by rw [any_rows]; exact q H1 (Ex.refl H1)⟩
theorem inV_num (k : Nat) : ∀ ns : List Nat, inV (.int (k : Int)) (nv ns) = decide (k ∈ ns)
  | [] => rfl
  | j :: ns => by
    have ih := inV_num k ns
    unfold inV at ih ⊢
    rw [show nv (j :: ns) = V.int (j : Int) :: nv ns from rfl, List.any_cons, ih]
    have e : eqV (.int (j : Int)) (.int (k : Int)) = decide (j = k) := by
      show decide ((j : Int) = (k : Int)) = _
      exact decide_eq_decide.mpr Int.ofNat_inj
    rw [e]
    by_cases h : j = k
    · simp [h]
    · have h' : ¬ k = j := fun q => h q.symm
      simp [h, h', List.mem_cons]
theorem flat_nums (ns : List Nat) : (nv ns).all flatV = true := by
  rw [List.all_eq_true]
  intro v hv
  obtain ⟨k, _, rfl⟩ := List.mem_map.mp hv
  rfl
theorem ei_rng2 {σ : L2.St} {H : Hp} {ta : TA} {lo n : Nat} (h : EvA ta σ H [.int (lo : Int), .int (n : Int)]) (h1 : lo ≤ 100000) (h2 : n ≤ 100000) : EvI (iRng2 ta) σ H (nums (lo : Int) (n - lo)) := fun H1 e R q => h H1 e _ fun H2 e2 => by
  have z : ((n : Int) - (lo : Int)).toNat = n - lo := by omega
  refine ⟨(lo : Int), (n : Int), rfl, ⟨by omega, by omega, by omega, by omega⟩, ?_⟩
  rw [z]
  exact q _ H2 H e2 (Ex.refl H) (e.trans e2) (fun _ n _ => n) goes_r
theorem el_rev {σ : L2.St} {H : Hp} {te : TE} {a : Addr} {xs : List V} (h : Ev te σ H (.ref a)) (hx : SqL K H a xs) : EvL (tRevL K te) σ H xs.reverse := fun H1 e Q q => h H1 e _ fun H2 e2 => ⟨a, xs, rfl, ex_l (e.trans e2) hx, fun p hp => q p _ (fresh_back e2 hp) (e2.trans (Ex.new hp)) upd_same⟩
end
section
variable {P : Program} {w : World} {K : PySem.W.Frag} {mg : PySem.Str → Option Value} {base : Heap} {f f1 f2 : Addr} {fd fd1 fd2 : FuncData}
/-! ### _law_upward, _law_downward -/
abbrev s_up : Stmt := top 66
abbrev s_dn : Stmt := top 67
abbrev nUp : List PySem.Str := ["_law_marked", "_law_steps", "_law_table", "_law_c", "_law_step", "_law_mark"]
def spUp (K : PySem.W.Frag) (g : List Nat → Nat → List Nat) : Sp := fun vs H Q _ => ∃ (a : Addr) (M : List Nat) (n : Nat), vs = [.ref a, .int (n : Int)] ∧ SqL K H a (nv M) ∧ M.length ≤ 1000 ∧ 1 ≤ n ∧ n ≤ 1000 ∧ RetL (nv (g M n)) H Q
theorem scUp : FnScope nUp ["_law_marked", "_law_steps"] (defScope s_up) := ⟨rfl, rfl, rfl, by decide +kernel, rfl, by decide +kernel, by decide +kernel⟩
theorem scDn : FnScope nUp ["_law_marked", "_law_steps"] (defScope s_dn) := ⟨rfl, rfl, rfl, by decide +kernel, rfl, by decide +kernel, by decide +kernel⟩
theorem sl_up {g : List Nat → Nat → List Nat} {a : Addr} {M : List Nat} {n : Nat} {H : Hp} (h : SqL K H a (nv M)) (h1 : M.length ≤ 1000) (h2 : 1 ≤ n) (h3 : n ≤ 1000) : SpL (spUp K g) [.ref a, .int (n : Int)] H (nv (g M n)) := fun H1 e Q q E => ⟨a, M, n, rfl, ex_l e h, h1, h2, h3, fun p H2 hp e2 hq => q p H2 hp e2 hq⟩
theorem ok_up (W : Wd mg) (D : Dat K mg "_law_upward" s_up ["_law_marked", "_law_steps"] f fd) : FnOk P w K mg base (L2.CX P w) 1 f fd ["_law_marked", "_law_steps"] (spUp K upT) := by
  refine D.F.okX scUp (fun vs H Q E h => ?_) (fun cdv A outer s H vs Q E hr h => ?_)
  · obtain ⟨a, M, n, rfl, _⟩ := h
    rfl
  · obtain ⟨a, M, n, rfl, ha, hm, n1, n2, k⟩ := h
    refine ⟨_, pss_cons (ps_set (i := 2) scUp.nd rfl (Or.inl rfl) (pe_lst pa_nil))
      (pss_cons (ps_for (passes_of rfl) rfl (pi_range1 rfl W.range (pa_cons (pv 1) pa_nil)) (pg_name (i := 3) scUp.nd rfl (Or.inl rfl))
        (pss_cons (ps_set (i := 4) scUp.nd rfl (Or.inl rfl) (pe_op op_sub (pv 1) pe_int))
        (pss_cons (ps_for (passes_of rfl) rfl (pi_list (pe_revL (pv 0))) (pg_name (i := 5) scUp.nd rfl (Or.inl rfl))
          (pss_one (ps_if (pt_cmpR op_ge (pv 5) (pv 3) (nomark _)) (pss_one (ps_set (i := 4) scUp.nd rfl (Or.inl rfl) (pv 5))) pss_nil)))
        (pss_one (ps_expr (pe_bm PySem.F.plainAttrs_list PySem.F.slot_list_append PySem.F.type_list_append mt_append (pv 2) (pa_cons (pv 4) pa_nil)))))))
      (pss_one (ps_ret (pv 2)))), ?_⟩
    refine q_asgL (el_lst (vs := []) ea_nil (by decide)) fun l H1 hl e1 h1 => ?_
    refine q_forN (H := H) (ei_rng1 (n := (n : Int)) (ea_cons (ev_var rfl) ea_nil) (by omega) (by omega)) e1 (fun i σ' H' => (∃ v1 v2 v3 : Option V, σ' = [some (.ref a), some (.int (n : Int)), some (.ref l), v1, v2, v3] ∧ H' l = some (.lst (nv ((List.range i).map fun c => M.foldr (fun m acc => if c ≤ m then m else acc) (n - 1))))) ∧ Ex H H') (fun H2 e2 => ⟨⟨none, none, none, rfl, e2 _ _ h1⟩, e1.trans e2⟩) ?_ ?_
    · rintro G i y σ' H' eG nG eG' hy ⟨⟨v1, v2, v3, rfl, hL⟩, eH⟩
      have nGl : G l = none := nG l hl (by rw [h1]; exact fun z => nomatch z)
      obtain ⟨hi, rfl⟩ := nums_at hy
      rw [Int.toNat_natCast] at hi
      rw [Int.zero_add]
      refine q_asg (v := .int ((n - 1 : Nat) : Int)) (ev_is (ev_op (ev_var rfl) ev_c rv_I0) (by congr 1; omega)) fun H2 e2 => ?_
      refine q_forI (H := H2) (ei_new (el_rev (K := K) (ev_var rfl) (ex_l (eH.trans e2) ha))) (Ex.refl H2) (fun _ d σ' H' => (∃ v3 : Option V, σ' = [some (.ref a), some (.int (n : Int)), some (.ref l), some (.int (i : Int)), some (.int (((M.reverse.take d).foldl (fun acc m => if i ≤ m then m else acc) (n - 1) : Nat) : Int)), v3]) ∧ Ex H2 H')
        (fun _ H3 _ e3 _ => ⟨⟨v3, rfl⟩, e3⟩) ?_ ?_
      · rintro G2 d x σ3 H3 eG2 eG2' hx ⟨⟨v3, rfl⟩, e3⟩
        rw [← List.map_reverse] at hx
        obtain ⟨hd, rfl⟩ := nv_get hx
        have tk : (M.reverse.take (d + 1)) = M.reverse.take d ++ [M.reverse.getD d 0] := by rw [List.take_add_one, List.getElem?_eq_getElem hd, List.getD_eq_getElem?_getD, List.getElem?_eq_getElem hd]; rfl
        refine s_when (ev_ltI (g := fun i j => decide (i ≥ j)) (ev_var rfl) (ev_var rfl)) (fun hc H4 e4 => ?_) fun hc H4 e4 => ?_
        · have hle : i ≤ M.reverse.getD d 0 := by have := of_decide_eq_true hc; omega
          refine s_asg (ev_var rfl) fun H5 e5 => ⟨(eG2'.trans e4).trans e5, ⟨some (.int ((M.reverse.getD d 0 : Nat) : Int)), ?_⟩, (e3.trans e4).trans e5⟩
          rw [tk, List.foldl_append, List.foldl_cons, List.foldl_nil, if_pos hle]
          rfl
        · have hgt : ¬ i ≤ M.reverse.getD d 0 := by have := of_decide_eq_false hc; omega
          refine ⟨eG2'.trans e4, ⟨some (.int ((M.reverse.getD d 0 : Nat) : Int)), ?_⟩, e3.trans e4⟩
          rw [tk, List.foldl_append, List.foldl_cons, List.foldl_nil, if_neg hgt]
          rfl
      · rintro G2 σ3 H3 eG2 eG2' ⟨⟨v3, rfl⟩, e3⟩
        have e23 := e2.trans e3
        refine s_app (e23 _ _ hL) (ev_var rfl) (ev_var rfl) (by simp; omega) fun H4 e4 => ⟨Ex.mut ((eG'.trans e23).trans e4) nGl, ⟨_, _, _, rfl, ?_⟩, Ex.mut ((eH.trans e23).trans e4) hl⟩
        rw [upd_same, range_snoc, nv_snoc]
        have q : ((nv M).reverse).length = M.reverse.length := by simp
        rw [q, List.take_length, List.foldl_reverse]
    · rintro σ' H' eH' ⟨⟨v1, v2, v3, rfl, hL⟩, eH⟩
      rw [nums_len, Int.toNat_natCast] at hL
      exact s_ret (ev_var rfl) fun H2 e2 => k l H2 hl (eH.trans e2) (e2 _ _ hL)
theorem ok_dn (W : Wd mg) (D : Dat K mg "_law_downward" s_dn ["_law_marked", "_law_steps"] f fd) : FnOk P w K mg base (L2.CX P w) 1 f fd ["_law_marked", "_law_steps"] (spUp K dnT) := by
  refine D.F.okX scDn (fun vs H Q E h => ?_) (fun cdv A outer s H vs Q E hr h => ?_)
  · obtain ⟨a, M, n, rfl, _⟩ := h
    rfl
  · obtain ⟨a, M, n, rfl, ha, hm, n1, n2, k⟩ := h
    refine ⟨_, pss_cons (ps_set (i := 2) scDn.nd rfl (Or.inl rfl) (pe_lst pa_nil))
      (pss_cons (ps_for (passes_of rfl) rfl (pi_range1 rfl W.range (pa_cons (pv 1) pa_nil)) (pg_name (i := 3) scDn.nd rfl (Or.inl rfl))
        (pss_cons (ps_set (i := 4) scDn.nd rfl (Or.inl rfl) pe_int)
        (pss_cons (ps_for (passes_of rfl) rfl (pi_list (pv 0)) (pg_name (i := 5) scDn.nd rfl (Or.inl rfl))
          (pss_one (ps_if (pt_cmpR op_le (pv 5) (pv 3) (nomark _)) (pss_one (ps_set (i := 4) scDn.nd rfl (Or.inl rfl) (pv 5))) pss_nil)))
        (pss_one (ps_expr (pe_bm PySem.F.plainAttrs_list PySem.F.slot_list_append PySem.F.type_list_append mt_append (pv 2) (pa_cons (pv 4) pa_nil)))))))
      (pss_one (ps_ret (pv 2)))), ?_⟩
    refine q_asgL (el_lst (vs := []) ea_nil (by decide)) fun l H1 hl e1 h1 => ?_
    refine q_forN (H := H) (ei_rng1 (n := (n : Int)) (ea_cons (ev_var rfl) ea_nil) (by omega) (by omega)) e1 (fun i σ' H' => (∃ v1 v2 v3 : Option V, σ' = [some (.ref a), some (.int (n : Int)), some (.ref l), v1, v2, v3] ∧ H' l = some (.lst (nv ((List.range i).map fun c => M.foldl (fun acc m => if m ≤ c then m else acc) 0)))) ∧ Ex H H') (fun H2 e2 => ⟨⟨none, none, none, rfl, e2 _ _ h1⟩, e1.trans e2⟩) ?_ ?_
    · rintro G i y σ' H' eG nG eG' hy ⟨⟨v1, v2, v3, rfl, hL⟩, eH⟩
      have nGl : G l = none := nG l hl (by rw [h1]; exact fun z => nomatch z)
      obtain ⟨hi, rfl⟩ := nums_at hy
      rw [Int.toNat_natCast] at hi
      rw [Int.zero_add]
      refine q_asg (v := .int ((0 : Nat) : Int)) ev_c fun H2 e2 => ?_
      refine q_forI (H := H2) (ei_list (K := K) (ev_var rfl) (ex_l (eH.trans e2) ha)) (Ex.refl H2) (fun _ d σ' H' => (∃ v3 : Option V, σ' = [some (.ref a), some (.int (n : Int)), some (.ref l), some (.int (i : Int)), some (.int (((M.take d).foldl (fun acc m => if m ≤ i then m else acc) 0 : Nat) : Int)), v3]) ∧ Ex H2 H')
        (fun _ H3 _ e3 _ => ⟨⟨v3, rfl⟩, e3⟩) ?_ ?_
      · rintro G2 d x σ3 H3 eG2 eG2' hx ⟨⟨v3, rfl⟩, e3⟩
        obtain ⟨hd, rfl⟩ := nv_get hx
        have tk : (M.take (d + 1)) = M.take d ++ [M.getD d 0] := by rw [List.take_add_one, List.getElem?_eq_getElem hd, List.getD_eq_getElem?_getD, List.getElem?_eq_getElem hd]; rfl
        refine s_when (ev_ltI (g := fun i j => decide (i ≤ j)) (ev_var rfl) (ev_var rfl)) (fun hc H4 e4 => ?_) fun hc H4 e4 => ?_
        · have hle : M.getD d 0 ≤ i := by have := of_decide_eq_true hc; omega
          refine s_asg (ev_var rfl) fun H5 e5 => ⟨(eG2'.trans e4).trans e5, ⟨some (.int ((M.getD d 0 : Nat) : Int)), ?_⟩, (e3.trans e4).trans e5⟩
          rw [tk, List.foldl_append, List.foldl_cons, List.foldl_nil, if_pos hle]
          rfl
        · have hgt : ¬ M.getD d 0 ≤ i := by have := of_decide_eq_false hc; omega
          refine ⟨eG2'.trans e4, ⟨some (.int ((M.getD d 0 : Nat) : Int)), ?_⟩, e3.trans e4⟩
          rw [tk, List.foldl_append, List.foldl_cons, List.foldl_nil, if_neg hgt]
          rfl
      · rintro G2 σ3 H3 eG2 eG2' ⟨⟨v3, rfl⟩, e3⟩
        have e23 := e2.trans e3
        refine s_app (e23 _ _ hL) (ev_var rfl) (ev_var rfl) (by simp; omega) fun H4 e4 => ⟨Ex.mut ((eG'.trans e23).trans e4) nGl, ⟨_, _, _, rfl, ?_⟩, Ex.mut ((eH.trans e23).trans e4) hl⟩
        rw [upd_same, range_snoc, nv_snoc, List.length_map, List.take_length]
    · rintro σ' H' eH' ⟨⟨v1, v2, v3, rfl, hL⟩, eH⟩
      rw [nums_len, Int.toNat_natCast] at hL
      exact s_ret (ev_var rfl) fun H2 e2 => k l H2 hl (eH.trans e2) (e2 _ _ hL)
end
end Z
end
/-! Z14 -/
set_option linter.all false
set_option maxRecDepth 100000
set_option maxHeartbeats 4000000
noncomputable section
namespace Z
open PySem PySem.Spec PyProof.Rows L2 PySem.Froz Evl TS

def ddN (U : List Nat) : List Nat := U.foldl (fun acc x => if x ∈ acc then acc else acc ++ [x]) []
def numT (U : List Nat) : List Nat := U.map fun e => ((ddN U).filter fun s => decide (s < e)).length
theorem dd_len (U : List Nat) : ∀ i, ((U.take i).foldl (fun acc x => if x ∈ acc then acc else acc ++ [x]) []).length ≤ i
  | 0 => by simp
  | i + 1 => by
    have ih := dd_len U i
    rcases Nat.lt_or_ge i U.length with h | h
    · rw [List.take_add_one, List.getElem?_eq_getElem h, Option.toList_some, List.foldl_append, List.foldl_cons, List.foldl_nil]
      split
      · omega
      · rw [List.length_append, List.length_singleton]; omega
    · rw [List.take_of_length_le (by omega)]
      rw [List.take_of_length_le h] at ih
      omega
theorem nat_range (S : List Nat) : (List.range S.length).map (fun i => S.getD i 0) = S := by
  apply List.ext_getElem
  · simp
  · intro i h1 h2
    simp [List.getD_eq_getElem?_getD, h2]
theorem given_count (S : List Nat) (p : Nat → Bool) (v : Nat → V) : (given S.length (fun i => p (S.getD i 0)) v).length = (S.filter p).length := by
  unfold given
  rw [List.length_map]
  conv => rhs; rw [← nat_range S, List.filter_map, List.length_map]
  rfl
section
variable {P : Program} {w : World} {K : PySem.W.Frag} {mg : PySem.Str → Option Value} {base : Heap} {f f1 f2 : Addr} {fd fd1 fd2 : FuncData}
/-! ### _law_numbers -/
abbrev s_nums : Stmt := top 68
abbrev nNm : List PySem.Str := ["_law_table", "_law_shown", "_law_step", "_law_end"]
def spNm (K : PySem.W.Frag) : Sp := fun vs H Q _ => ∃ (a : Addr) (U : List Nat), vs = [.ref a] ∧ SqL K H a (nv U) ∧ U.length ≤ 1000 ∧ RetL (nv (numT U)) H Q
theorem scNm : FnScope nNm ["_law_table"] (defScope s_nums) := ⟨rfl, rfl, rfl, by decide +kernel, rfl, by decide +kernel, by decide +kernel⟩
theorem sl_nm {a : Addr} {U : List Nat} {H : Hp} (h : SqL K H a (nv U)) (h1 : U.length ≤ 1000) : SpL (spNm K) [.ref a] H (nv (numT U)) := fun H1 e Q q E => ⟨a, U, rfl, ex_l e h, h1, fun p H2 hp e2 hq => q p H2 hp e2 hq⟩
theorem ok_nums (W : Wd mg) (D : Dat K mg "_law_numbers" s_nums ["_law_table"] f fd) : FnOk P w K mg base (L2.CX P w) 1 f fd ["_law_table"] (spNm K) := by
  refine D.F.okX scNm (fun vs H Q E h => ?_) (fun cdv A outer s H vs Q E hr h => ?_)
  · obtain ⟨a, U, rfl, _⟩ := h
    rfl
  · obtain ⟨a, U, rfl, ha, hz, k⟩ := h
    refine ⟨_, pss_cons (ps_set (i := 1) scNm.nd rfl (Or.inr rfl) (pe_lst pa_nil))
      (pss_cons (ps_for (passes_of rfl) rfl (pi_list (pv 0)) (pg_name (i := 2) scNm.nd rfl (Or.inl rfl)) (pss_one (ps_if (pt_cmpR op_notIn_seq (pv 2) (pv 1) (by rfl)) (pss_one (ps_expr (pe_bm PySem.F.plainAttrs_list PySem.F.slot_list_append PySem.F.type_list_append mt_append (pv 1) (pa_cons (pv 2) pa_nil)))) pss_nil)))
      (pss_one (ps_ret (pe_l1 (own := [("_law_end", 3)]) (g := gName 3) (te := tCB (rLenS K) (tCons (tKc P w .lst (iList K (tVar 1)) (gName 2) (tTest (tOp (rI0 fun i j => .bl (decide (i < j))) (tVar 2) (tVar 3))) (tVar 2) [2]) tNil)) rfl scNm.nd (pi_list (pv 0)) (blkOk_by (N := nNm) (sc := defScope s_nums) (by decide +kernel))
        (fun _ _ _ _ _ => pg_name (i := 3) scNm.nd rfl (Or.inr rfl)) (fun _ _ _ _ _ => pts_nil)
        (fun _ _ _ _ _ => pe_callB call_len_seq (by rfl) W.len PySem.boot_len (pa_cons (pe_l1 (own := [("_law_step", 2)]) (g := gName 2) (tt := tTest (tOp (rI0 fun i j => .bl (decide (i < j))) (tVar 2) (tVar 3))) (te := tVar 2) rfl scNm.nd (pi_list (pv 1)) (blkOk_by (N := nNm) (sc := relS { kind := .function, names := [(".0", .local), ("_law_end", .cell), ("len", .globalImplicit), ("_law_shown", .free)], isGenerator := false, isCoroutine := false } (defScope s_nums)) (by decide +kernel))
          (fun _ _ _ _ _ => pg_name (i := 2) scNm.nd rfl (Or.inl rfl)) (fun _ _ _ _ _ => pts_one (pt_cmpR op_lt (pv 2) (pv 3) (nomark _))) (fun _ _ _ _ _ => pv 2)) pa_nil)))))), ?_⟩
    refine q_asgL (el_lst (vs := []) ea_nil (by decide)) fun l H1 hl e1 h1 => ?_
    refine q_forN (H := H) (ei_list (K := K) (ev_var rfl) ha) e1 (fun i σ' H' => (∃ v : Option V, σ' = [some (.ref a), some (.ref l), v, none] ∧ H' l = some (.lst (nv ((U.take i).foldl (fun acc x => if x ∈ acc then acc else acc ++ [x]) [])))) ∧ Ex H H') (fun H2 e2 => ⟨⟨none, rfl, e2 _ _ h1⟩, e1.trans e2⟩) ?_ ?_
    · rintro G i y σ' H' eG nG eG' hy ⟨⟨v, rfl, hL⟩, eH⟩
      have nGl : G l = none := nG l hl (by rw [h1]; exact fun z => nomatch z)
      obtain ⟨hi, rfl⟩ := nv_get hy
      have tk : (U.take (i + 1)) = U.take i ++ [U.getD i 0] := by rw [List.take_add_one, List.getElem?_eq_getElem hi, List.getD_eq_getElem?_getD, List.getElem?_eq_getElem hi]; rfl
      have ln := dd_len U i
      rw [tk, List.foldl_append, List.foldl_cons, List.foldl_nil]
      generalize (U.take i).foldl (fun acc x => if x ∈ acc then acc else acc ++ [x]) [] = fs at hL ln
      refine s_when (b := !decide (U.getD i 0 ∈ fs)) (et_test (ev_is (ev_op (ev_var rfl) (ev_var rfl) (rv_niL (K := K) (sq_of hL) rfl (flat_nums fs))) (by rw [inV_num]))) (fun hb H2 e2 => ?_) fun hb H2 e2 => ?_
      · have nf : ¬ U.getD i 0 ∈ fs := by simpa using hb
        rw [if_neg nf]
        refine s_app (e2 _ _ hL) (ev_var rfl) (ev_var rfl) (by simp; omega) fun H3 e3 => ⟨Ex.mut ((eG'.trans e2).trans e3) nGl, ⟨_, rfl, by rw [upd_same, nv_snoc]⟩, Ex.mut ((eH.trans e2).trans e3) hl⟩
      · have yf : U.getD i 0 ∈ fs := by simpa using hb
        rw [if_pos yf]
        exact ⟨eG'.trans e2, ⟨_, rfl, e2 _ _ hL⟩, eH.trans e2⟩
    · rintro σ' H' eH' ⟨⟨v, rfl, hL⟩, eH⟩
      rw [List.length_map, List.take_length] at hL
      have ln := dd_len U U.length
      rw [List.take_length] at ln
      have hL' : H' l = some (.lst (nv (ddN U))) := hL
      have ln' : (ddN U).length ≤ U.length := ln
      refine s_retL (xs := nv (numT U)) ?_ fun p H2 hp e2 h2 => k.go eH hp e2 h2
      refine (ek_kc .lst (nv (numT U)) (ei_list (K := K) (ev_var rfl) (ex_l eH ha)) (by simp [numT]) (by simp; omega) (fun _ _ => trivial) (fun _ => rfl) fun i z y H3 e3 hz1 hy => ?_).lst
      obtain ⟨hi, rfl⟩ := nv_get hz1
      obtain ⟨hi2, rfl⟩ := nv_get hy
      refine ev_is (ev_lenN (K := K) (ek_kcF (P := P) (w := w) .lst (fun j => decide ((ddN U).getD j 0 < U.getD i 0)) (fun j => .int ((ddN U).getD j 0 : Nat)) (ei_list (K := K) (ev_var rfl) (sq_of (e3 _ _ hL'))) (by simp; omega) (fun _ => trivial) (fun _ => rfl) (fun j x H4 e4 hx => ?_) fun j x H4 e4 hx _ => ?_).lst) ?_
      · obtain ⟨hj, rfl⟩ := nv_get hx
        exact et_is (ev_ltI (g := fun i j => decide (i < j)) (ev_var rfl) (ev_var rfl)) (by simp)
      · obtain ⟨hj, rfl⟩ := nv_get hx
        exact ev_var rfl
      · rw [List.length_map, given_count (ddN U) (fun s => decide (s < U.getD i 0))]
        have e : (numT U).getD i 0 = ((ddN U).filter fun s => decide (s < U.getD i 0)).length := by simp [numT, List.getD_eq_getElem?_getD, hi]
        rw [e]
end
end Z
end
/-! Z15 -/
set_option linter.all false
set_option maxRecDepth 100000
set_option maxHeartbeats 4000000
noncomputable section
namespace Z
open PySem PySem.Spec PyProof.Rows L2 PySem.Froz Evl TS

/-! ### lists with new lists in them -/
section
variable {P : Program} {w : World} {K : PySem.W.Frag} {σ : L2.St} {H H1 : Hp} {ta tb te : TE} {D : Ends} {tz : TS} {xs ys : List V} {i : Nat}
def EvW1 (te : TE) (σ : L2.St) (H : Hp) (xs : List V) : Prop := ∀ H1, Ex H H1 → ∀ Q : VK, (∀ p r H2, H1 p = none → H1 r = none → p ≠ r → Ex H1 H2 → H2 p = some (.lst [.ref r]) → H2 r = some (.lst xs) → Q (.ref p) H2) → te σ H1 Q
def EvW2 (te : TE) (σ : L2.St) (H : Hp) (xs ys : List V) : Prop := ∀ H1, Ex H H1 → ∀ Q : VK, (∀ p r t H2, H1 p = none → H1 r = none → H1 t = none → p ≠ r → p ≠ t → r ≠ t → Ex H1 H2 → H2 p = some (.lst [.ref r, .ref t]) → H2 r = some (.lst xs) → H2 t = some (.lst ys) → Q (.ref p) H2) → te σ H1 Q
theorem ne_new {H : Hp} {p q : Addr} {o : HO} (h : H q = some o) (n : H p = none) : p ≠ q := fun z => by rw [z, h] at n; cases n
theorem ew_one (h : EvL ta σ H xs) : EvW1 (tLst (tCons ta tNil)) σ H xs := fun H1 e Q q => h H1 e _ fun r H2 hr e2 h2 =>
  ⟨sz_of (by show 1 ≤ 100000; decide), fun p hp => q p r _ (fresh_back e2 hp) hr (ne_new h2 hp) (e2.trans (Ex.new hp)) upd_same (by rw [upd_ne (Ne.symm (ne_new h2 hp))]; exact h2)⟩
theorem ew_two (ha : EvL ta σ H xs) (hb : EvL tb σ H ys) : EvW2 (tLst (tCons ta (tCons tb tNil))) σ H xs ys := fun H1 e Q q => ha H1 e _ fun r H2 hr e2 h2 => hb H2 (e.trans e2) _ fun t H3 ht e3 h3 =>
  ⟨sz_of (by show 2 ≤ 100000; decide), fun p hp => by
    have h2' := e3 _ _ h2
    exact q p r t _ (fresh_back (e2.trans e3) hp) hr (fresh_back e2 ht) (ne_new h2' hp) (ne_new h3 hp) (Ne.symm (ne_new h2 ht)) ((e2.trans e3).trans (Ex.new hp)) upd_same (by rw [upd_ne (Ne.symm (ne_new h2' hp))]; exact h2') (by rw [upd_ne (Ne.symm (ne_new h3 hp))]; exact h3)⟩
theorem q_asg1 (h : EvW1 te σ H xs) (k : ∀ p r H2, H p = none → H r = none → p ≠ r → Ex H H2 → H2 p = some (.lst [.ref r]) → H2 r = some (.lst xs) → tz D (σ.set i (some (.ref p))) H2) : tSeq (tAsg te (gName i)) tz D σ H := h H (Ex.refl H) _ k
theorem q_asg2 (h : EvW2 te σ H xs ys) (k : ∀ p r t H2, H p = none → H r = none → H t = none → p ≠ r → p ≠ t → r ≠ t → Ex H H2 → H2 p = some (.lst [.ref r, .ref t]) → H2 r = some (.lst xs) → H2 t = some (.lst ys) → tz D (σ.set i (some (.ref p))) H2) : tSeq (tAsg te (gName i)) tz D σ H := h H (Ex.refl H) _ k
/-- if ..: v = .. -/
theorem q_ifset {t : TT} {b : Bool} {v0 v1 : V} (hb : EvT t σ H b) (h : b = true → ∀ H1, Ex H H1 → Ev te σ H1 v1) (hv : σ[i]? = some (some v0)) (h0 : b = false → v0 = v1) (k : ∀ H1, Ex H H1 → tz D (σ.set i (some v1)) H1) : tSeq (tIfS t (tAsg te (gName i)) tNext) tz D σ H :=
  q_when hb (fun z H1 e => s_asg (h z H1 e) fun H2 e2 => k H2 (e.trans e2)) fun z H1 e => by
    have y := k H1 e
    rw [← h0 z] at y
    have s : σ.set i (some v0) = σ := by
      obtain ⟨hi, g⟩ := List.getElem?_eq_some_iff.mp hv
      rw [← g]; exact List.set_getElem_self hi
    rwa [s] at y
/-- a list that stands + a new one -/
theorem el_catR {l : Addr} (ha : Ev ta σ H (.ref l)) (hl : H l = some (.lst xs)) (hb : EvL tb σ H ys) (hz : xs.length + ys.length ≤ 100000) : EvL (tOp rCat ta tb) σ H (xs ++ ys) := fun H1 e Q q =>
  ha H1 e _ fun H2 e2 => hb H2 (e.trans e2) _ fun b H3 hb2 e3 h3 => ⟨l, b, xs, ys, rfl, rfl, e3 _ _ (e2 _ _ (e _ _ hl)), h3, sz_of hz, fun p hp => q p _ (fresh_back (e2.trans e3) hp) ((e2.trans e3).trans (Ex.new hp)) upd_same⟩
end
/-- an object that no row is changes -/
theorem Rows.upd {H : Hp} {zs : List V} {W : List (List Nat)} {l : Addr} {o : HO} (h : Rows H zs W) (n : V.ref l ∉ zs) : Rows (upd H l o) zs W := ⟨h.1, fun i hi => by
  obtain ⟨p, a, b⟩ := h.2 i hi
  exact ⟨p, a, by rw [upd_ne (fun z => n (by rw [← z]; exact List.mem_of_getElem? a))]; exact b⟩⟩
theorem getLastD_at (R : List Nat) : R.getLastD 0 = R.getD (R.length - 1) 0 := by
  rw [List.getLastD_eq_getLast?, List.getLast?_eq_getElem?, List.getD_eq_getElem?_getD]
def stepR (n : Nat) (r : List Nat) : List (List Nat) := (List.range (n - r.getLastD 0)).map fun j => r ++ [r.getLastD 0 + j]
theorem longer_eq (n : Nat) (W : List (List Nat)) : longer n W = W.flatMap (stepR n) := rfl
def goodR (n : Nat) : Bool := (List.range (n + 1)).all fun k => decide ((risesK n k).length ≤ 200) && (risesK n k).all fun r => decide (r.getLastD 0 ≤ 5) && decide (r.length ≤ 5)
theorem rises_small (n : Nat) (h1 : 1 ≤ n) (h5 : n ≤ 5) : goodR n = true := by
  match n, h1, h5 with
  | 1, _, _ => decide +kernel
  | 2, _, _ => decide +kernel
  | 3, _, _ => decide +kernel
  | 4, _, _ => decide +kernel
  | 5, _, _ => decide +kernel
theorem small_at {n k : Nat} (h1 : 1 ≤ n) (h5 : n ≤ 5) (hk : k ≤ n) : (risesK n k).length ≤ 200 ∧ ∀ r ∈ risesK n k, r.getLastD 0 ≤ 5 ∧ r.length ≤ 5 := by
  have g := rises_small n h1 h5
  unfold goodR at g
  rw [List.all_eq_true] at g
  have z := g k (List.mem_range.mpr (by omega))
  rw [Bool.and_eq_true, List.all_eq_true] at z
  refine ⟨of_decide_eq_true z.1, fun r hr => ?_⟩
  have y := z.2 r hr
  rw [Bool.and_eq_true] at y
  exact ⟨of_decide_eq_true y.1, of_decide_eq_true y.2⟩
theorem flat_take {α β : Type} (W : List α) (g : α → List β) (i : Nat) : ((W.take i).flatMap g).length ≤ (W.flatMap g).length := by
  have e : W.flatMap g = (W.take i).flatMap g ++ (W.drop i).flatMap g := by rw [← List.flatMap_append, List.take_append_drop]
  rw [e, List.length_append]; omega
section
variable {P : Program} {w : World} {K : PySem.W.Frag} {mg : PySem.Str → Option Value} {base : Heap} {f f1 f2 : Addr} {fd fd1 fd2 : FuncData}
/-! ### _law_risings -/
abbrev s_ris : Stmt := top 60
abbrev nRs : List PySem.Str := ["_law_size_here", "_law_rows", "_law_k", "_law_longer", "_law_row", "_law_low", "_law_step"]
def RetR (W : List (List Nat)) (H : Hp) (Q : VK) : Prop := ∀ p ys H2, H p = none → Ex H H2 → H2 p = some (.lst ys) → Rows H2 ys W → Q (.ref p) H2
def spRs : Sp := fun vs H Q _ => ∃ n : Nat, vs = [.int (n : Int)] ∧ 1 ≤ n ∧ n ≤ 5 ∧ RetR (rises n) H Q
theorem scRs : FnScope nRs ["_law_size_here"] (defScope s_ris) := ⟨rfl, rfl, rfl, by decide +kernel, rfl, by decide +kernel, by decide +kernel⟩
theorem ok_risings (W : Wd mg) (D : Dat K mg "_law_risings" s_ris ["_law_size_here"] f fd) : FnOk P w K mg base (L2.CX P w) 1 f fd ["_law_size_here"] spRs := by
  refine D.F.okX scRs (fun vs H Q E h => ?_) (fun cdv A outer s H vs Q E hr h => ?_)
  · obtain ⟨n, rfl, _⟩ := h
    rfl
  · obtain ⟨n, rfl, n1, n5, k⟩ := h
    have hu := hr.units
    have hu1 : (A.deeper (envOfC "_law_risings" (defScope s_ris) s.heap.objs.size f cdv)).units + 64 < cLine := by omega
    refine ⟨_, pss_cons (ps_set (i := 1) scRs.nd rfl (Or.inl rfl) (pe_lst (pa_cons (pe_lst pa_nil) pa_nil)))
      (pss_cons (ps_for (passes_of rfl) rfl (pi_range1 rfl W.range (pa_cons (pv 0) pa_nil)) (pg_name (i := 2) scRs.nd rfl (Or.inl rfl))
        (pss_cons (ps_set (i := 3) scRs.nd rfl (Or.inl rfl) (pe_lst pa_nil))
        (pss_cons (ps_for (passes_of rfl) rfl (pi_list (pv 1)) (pg_name (i := 4) scRs.nd rfl (Or.inl rfl))
          (pss_cons (ps_set (i := 5) scRs.nd rfl (Or.inl rfl) pe_int)
          (pss_cons (ps_if (pt_cmpR (op_neD hu1) (pv 4) (pe_lst pa_nil) (nomark _)) (pss_one (ps_set (i := 5) scRs.nd rfl (Or.inl rfl) (pe_ix ix_list (pv 4) (pe_un un_neg pe_int) (fun _ _ => rfl)))) pss_nil)
          (pss_one (ps_for (passes_of rfl) rfl (pi_range2 rfl W.range (pa_cons (pv 5) (pa_cons (pv 0) pa_nil))) (pg_name (i := 6) scRs.nd rfl (Or.inl rfl))
            (pss_one (ps_expr (pe_bm PySem.F.plainAttrs_list PySem.F.slot_list_append PySem.F.type_list_append mt_append (pv 3) (pa_cons (pe_op op_cat (pv 4) (pe_lst (pa_cons (pv 6) pa_nil))) pa_nil)))))))))
        (pss_one (ps_set (i := 1) scRs.nd rfl (Or.inl rfl) (pe_callTy call_list_of rfl W.list PyProof.Rows.boot_list (pa_cons (pv 3) pa_nil)))))))
      (pss_one (ps_ret (pv 1)))), ?_⟩
    refine q_asg1 (ew_one (el_lst (vs := []) ea_nil (by decide))) fun p0 r0 H1 hp0 hr0 ne0 e1 h1 hr1 => ?_
    have R0 : Rows H1 [.ref r0] (risesK n 0) := ⟨rfl, fun i hi => by
      have : i = 0 := by simpa [risesK] using hi
      subst this
      exact ⟨r0, rfl, hr1⟩⟩
    refine q_forN (H := H1) (ei_rng1 (n := (n : Int)) (ea_cons (ev_var rfl) ea_nil) (by omega) (by omega)) (Ex.refl H1) (fun i σ' H' => (∃ (p : Addr) (ys : List V) (v2 v3 v4 v5 v6 : Option V), σ' = [some (.int (n : Int)), some (.ref p), v2, v3, v4, v5, v6] ∧ H' p = some (.lst ys) ∧ Rows H' ys (risesK n i) ∧ H p = none) ∧ Ex H1 H') (fun H2 e2 => ⟨⟨p0, _, none, none, none, none, none, rfl, e2 _ _ h1, R0.mono e2, hp0⟩, e2⟩) ?_ ?_
    · rintro G i y σ' H' eG nG eG' hy ⟨⟨p, ys, v2, v3, v4, v5, v6, rfl, hp, hR, hpn⟩, eH⟩
      obtain ⟨hi, rfl⟩ := nums_at hy
      rw [Int.toNat_natCast] at hi
      rw [Int.zero_add]
      obtain ⟨sm1, sm2⟩ := small_at n1 n5 (k := i) (by omega)
      obtain ⟨sm3, _⟩ := small_at n1 n5 (k := i + 1) (by omega)
      have sm3' : ((risesK n i).flatMap (stepR n)).length ≤ 200 := sm3
      generalize hW : risesK n i = W1 at hR sm1 sm2 sm3'
      refine q_asgL (el_lst (vs := []) ea_nil (by decide)) fun l Ha hl ea hla => ?_
      refine q_forN (H := H') (ei_list (K := K) (ev_var rfl) (sq_of hp)) ea (fun j σ3 H3 => (∃ (zs : List V) (v4 v5 v6 : Option V), σ3 = [some (.int (n : Int)), some (.ref p), some (.int (i : Int)), some (.ref l), v4, v5, v6] ∧ H3 l = some (.lst zs) ∧ V.ref l ∉ zs ∧ Rows H3 zs ((W1.take j).flatMap (stepR n))) ∧ Ex H' H3) (fun H3 e3 => ⟨⟨[], v4, v5, v6, rfl, e3 _ _ hla, by simp, by simpa using Rows.nil⟩, ea.trans e3⟩) ?_ ?_
      · rintro G2 j x σ3 H3 eG2 nG2 eG2' hx ⟨⟨zs, v4, v5, v6, rfl, hz, nz, hRz⟩, e3⟩
        have nGl : G2 l = none := nG2 l hl (by rw [hla]; exact fun z => nomatch z)
        have hj : j < W1.length := by rw [← hR.1]; exact (List.getElem?_eq_some_iff.mp hx).1
        obtain ⟨r, hr1, hr2⟩ := hR.2 j hj
        rw [hr1] at hx
        cases hx
        have tk := take_next hj
        generalize hR1 : W1.getD j [] = R at hr2 tk
        have hRm : R ∈ W1 := by rw [← hR1]; exact getD_mem hj
        obtain ⟨lo5, len5⟩ := sm2 R hRm
        have hr3 := e3 _ _ hr2
        have hlen := hRz.1
        have pre := flat_take W1 (stepR n) j
        have nonneg : R.getLastD 0 ≤ 100000 := by omega
        refine q_asg (v := .int ((0 : Nat) : Int)) ev_c fun H4 e4 => ?_
        have hr4 := e4 _ _ hr3
        refine q_ifset (i := 5) (v0 := .int ((0 : Nat) : Int)) (v1 := .int ((R.getLastD 0 : Nat) : Int)) (b := !decide (R = [])) (et_test (ev_is (ev_opL (ev_var rfl) (el_lst (vs := []) ea_nil (by decide)) fun q H5 hq e5 => rv_neD (dp_nums (U := R) (sq_of (e5 _ _ hr4))) (dp_nums (U := []) (sq_of hq)) (shaped_nums R) (shaped_nums [])) (by rw [eqv_nums]))) (fun hb H5 e5 => ?_) rfl (fun hb => ?_) fun H5 e5 => ?_
        · have ne : R ≠ [] := by simpa using hb
          have pos : 0 < R.length := List.length_pos_iff.mpr ne
          rw [getLastD_at]
          exact ev_op (ev_var rfl) ev_neg1 (rv_ixL (sq_of (e5 _ _ hr4)) (nv_last pos))
        · have e : R = [] := by simpa using hb
          rw [e]; rfl
        · have e45 := e4.trans e5
          refine s_forN (H := G2) (ei_rng2 (lo := R.getLastD 0) (n := n) (ea_cons (ev_var rfl) (ea_cons (ev_var rfl) ea_nil)) nonneg (by omega)) (eG2'.trans e45) (fun m σ4 H6 => (∃ (zs2 : List V) (v6 : Option V), σ4 = [some (.int (n : Int)), some (.ref p), some (.int (i : Int)), some (.ref l), some (.ref r), some (.int ((R.getLastD 0 : Nat) : Int)), v6] ∧ H6 l = some (.lst zs2) ∧ V.ref l ∉ zs2 ∧ Rows H6 zs2 ((W1.take j).flatMap (stepR n) ++ (List.range m).map fun s => R ++ [R.getLastD 0 + s])) ∧ Ex H' H6) (fun H6 e6 => ⟨⟨zs, v6, rfl, (e45.trans e6) _ _ hz, nz, by simpa using hRz.mono (e45.trans e6)⟩, (e3.trans e45).trans e6⟩) ?_ ?_
          · rintro G3 m x σ4 H6 eG3 nG3 eG3' hx ⟨⟨zs2, v6, rfl, hz2, nz2, hRz2⟩, e6⟩
            have n3l : G3 l = none := nG3 l nGl (by rw [e45 _ _ hz]; exact fun z => nomatch z)
            obtain ⟨hm, rfl⟩ := nums_at hx
            have hl2 := hRz2.1
            rw [List.length_append, List.length_map, List.length_range] at hl2
            refine s_appL (ys := nv (R ++ [R.getLastD 0 + m])) hz2 (ev_var rfl) ?_ (by omega) fun q H7 hq e7 h7 => ⟨Ex.mut (eG3'.trans e7) n3l, ⟨⟨zs2 ++ [.ref q], some (.int ((R.getLastD 0 : Nat) + (m : Int))), rfl, upd_same, ?_, ?_⟩, Ex.mut (e6.trans e7) hl⟩⟩
            · rw [nv_app]
              exact el_catR (ev_var rfl) (e6 _ _ hr2) (el_lst (vs := [.int ((R.getLastD 0 + m : Nat) : Int)]) (ea_cons (ev_is (ev_var rfl) (by congr 1)) ea_nil) (by show 1 ≤ 100000; decide)) (by simp; omega)
            · have hql : q ≠ l := fun z => by rw [z, hz2] at hq; cases hq
              rw [List.mem_append, List.mem_singleton]
              exact fun z => z.elim nz2 fun z => hql (V.ref.inj z).symm
            · have hql : q ≠ l := fun z => by rw [z, hz2] at hq; cases hq
              have z := ((hRz2.mono e7).snoc h7).upd (l := l) (o := .lst (zs2 ++ [.ref q])) (by
                rw [List.mem_append, List.mem_singleton]
                exact fun z => z.elim nz2 fun z => hql (V.ref.inj z).symm)
              rw [List.range_succ, List.map_append, ← List.append_assoc]
              exact z
          · rintro σ4 H6 eG3 ⟨⟨zs2, v6, rfl, hz2, nz2, hRz2⟩, e6⟩
            rw [nums_len] at hRz2
            refine ⟨eG3, ⟨zs2, _, _, _, rfl, hz2, nz2, ?_⟩, e6⟩
            rw [tk, List.flatMap_append]
            simpa [stepR] using hRz2
      · rintro σ3 H3 eG2 ⟨⟨zs, v4, v5, v6, rfl, hz, nz, hRz⟩, e3⟩
        rw [hR.1, List.take_length] at hRz
        refine s_asgL (el_list (K := K) (ev_var rfl) (sq_of hz)) fun q H4 hq e4 h4 => ⟨(eG'.trans e3).trans e4, ⟨q, zs, _, _, _, _, _, rfl, h4, ?_, fresh_back ((e1.trans eH).trans e3) hq⟩, (eH.trans e3).trans e4⟩
        have z := hRz.mono e4
        rw [← hW] at z
        exact z
    · rintro σ' H' eH' ⟨⟨p, ys, v2, v3, v4, v5, v6, rfl, hp, hR, hpn⟩, eH⟩
      rw [nums_len, Int.toNat_natCast] at hR
      exact s_ret (ev_var rfl) fun H2 e2 => k p ys H2 hpn ((e1.trans eH).trans e2) (e2 _ _ hp) (hR.mono e2)
end
end Z
end
/-! Z16 -/
set_option linter.all false
set_option maxRecDepth 100000
set_option maxHeartbeats 4000000
noncomputable section
namespace Z
open PySem PySem.Spec PyProof.Rows L2 PySem.Froz Evl TS

/-! ### tables and their back tables -/
theorem thr_before {ns : List Nat} {m j : Nat} (h : j < thr ns m) : ns.getD j 0 < m := by
  have hl : j < ns.length := Nat.lt_of_lt_of_le h (thr_le ns m)
  have z := List.not_of_lt_findIdx (p := fun x => decide (m ≤ x)) (xs := ns) h
  rw [List.getD_eq_getElem?_getD, List.getElem?_eq_getElem hl]
  have : ¬ m ≤ ns[j] := by simpa using z
  show ns[j] < m
  omega
theorem thr_here {ns : List Nat} {m : Nat} (h : thr ns m < ns.length) : m ≤ ns.getD (thr ns m) 0 := by
  have z := List.findIdx_getElem (p := fun x => decide (m ≤ x)) (xs := ns) (w := h)
  rw [List.getD_eq_getElem?_getD, List.getElem?_eq_getElem h]
  exact of_decide_eq_true z
structure Bk (T : List Nat) (c b : Nat) : Prop where
  lt : b < T.length
  le : T.getD b 0 ≤ c
  max : ∀ d, d < T.length → T.getD d 0 ≤ c → d ≤ b
theorem back_at {T : List Nat} {c : Nat} (hc : c < T.length) : (backT T).getD c 0 = thr T (c + 1) - 1 := by simp [backT, List.getD_eq_getElem?_getD, hc]
theorem back_len (T : List Nat) : (backT T).length = T.length := by simp [backT]
theorem bk_of {T : List Nat} (g : Grd T) {c : Nat} (hc : c < T.length) : Bk T c ((backT T).getD c 0) := by
  rw [back_at hc]
  have h1 := thr_pos (c := c) g.ris.pos g.zero
  have h2 := thr_le T (c + 1)
  refine ⟨by omega, ?_, fun d hd hdc => ?_⟩
  · have := thr_before (ns := T) (m := c + 1) (j := thr T (c + 1) - 1) (by omega)
    omega
  · rcases Nat.lt_or_ge d (thr T (c + 1)) with h | h
    · omega
    · have z := thr_here (ns := T) (m := c + 1) (by omega)
      have y := g.ris.mono h hd
      omega
theorem bk_eq {T : List Nat} (g : Grd T) {c b : Nat} (hc : c < T.length) (h : Bk T c b) : (backT T).getD c 0 = b := by
  rw [back_at hc]
  exact back_eq g h.lt h.le h.max
theorem ext_getD {U V : List Nat} (hl : U.length = V.length) (h : ∀ c, c < U.length → U.getD c 0 = V.getD c 0) : U = V := by
  apply List.ext_getElem hl
  intro i h1 h2
  have z := h i h1
  rw [List.getD_eq_getElem?_getD, List.getD_eq_getElem?_getD, List.getElem?_eq_getElem h1, List.getElem?_eq_getElem h2] at z
  exact z
theorem comp_len (U V : List Nat) : (compT U V).length = V.length := by simp [compT]
theorem comp_at {U V : List Nat} {c : Nat} (hc : c < V.length) : (compT U V).getD c 0 = U.getD (V.getD c 0) 0 := by simp [compT, List.getD_eq_getElem?_getD, hc]
theorem comp_range (U : List Nat) : compT U (List.range U.length) = U := nat_range U
section
variable {T : List Nat} (g : Grd T)
include g
theorem t_lt {c : Nat} (hc : c < T.length) : T.getD c 0 < T.length := g.ris.lt c hc
theorem b_lt {c : Nat} (hc : c < T.length) : (backT T).getD c 0 < T.length := (bk_of g hc).lt
theorem tb_le {c : Nat} (hc : c < T.length) : T.getD ((backT T).getD c 0) 0 ≤ c := (bk_of g hc).le
theorem bt_ge {c : Nat} (hc : c < T.length) : c ≤ (backT T).getD (T.getD c 0) 0 := (bk_of g (t_lt g hc)).max c hc (Nat.le_refl _)
theorem b_mono {c d : Nat} (h : c ≤ d) (hd : d < T.length) : (backT T).getD c 0 ≤ (backT T).getD d 0 := (bk_of g hd).max _ (b_lt g (by omega)) (Nat.le_trans (tb_le g (by omega)) h)
theorem tbt {c : Nat} (hc : c < T.length) : T.getD ((backT T).getD (T.getD c 0) 0) 0 = T.getD c 0 := by
  have h1 := tb_le g (t_lt g hc)
  have h2 := g.ris.mono (bt_ge g hc) (b_lt g (t_lt g hc))
  omega
theorem btb {c : Nat} (hc : c < T.length) : (backT T).getD (T.getD ((backT T).getD c 0) 0) 0 = (backT T).getD c 0 := by
  have hb := b_lt g hc
  have h1 := bt_ge g hb
  have h2 := (bk_of g hc).max ((backT T).getD (T.getD ((backT T).getD c 0) 0) 0) (b_lt g (t_lt g hb)) (by rw [tbt g hb]; exact tb_le g hc)
  omega
theorem comp_tbt : compT T (compT (backT T) T) = T := ext_getD (by rw [comp_len, comp_len]) fun c hc => by
  rw [comp_len, comp_len] at hc
  rw [comp_at (by rw [comp_len]; exact hc), comp_at hc, tbt g hc]
theorem comp_btb : compT (backT T) (compT T (backT T)) = backT T := ext_getD (by rw [comp_len, comp_len]) fun c hc => by
  rw [comp_len, comp_len] at hc
  rw [comp_at (by rw [comp_len]; exact hc), comp_at hc, btb g (by rwa [back_len] at hc)]
theorem head_bt : headT T.length [backT T, T] = compT (backT T) T := by
  show compT (backT T) (compT T (List.range T.length)) = _
  rw [comp_range]
theorem head_tb : headT T.length [T, backT T] = compT T (backT T) := by
  show compT T (compT (backT T) (List.range T.length)) = _
  rw [← back_len T, comp_range]
theorem head_tbt : headT T.length [T, backT T, T] = T := by
  show compT T (compT (backT T) (compT T (List.range T.length))) = _
  rw [comp_range, comp_tbt g]
theorem head_btb : headT T.length [backT T, T, backT T] = backT T := by
  show compT (backT T) (compT T (compT (backT T) (List.range T.length))) = _
  rw [← back_len T, comp_range, comp_btb g]
theorem ris_bt : Ris (compT (backT T) T) := ⟨by rw [comp_len]; exact g.ris.pos, fun i hi => by
  rw [comp_len] at hi
  rw [comp_at (by omega), comp_at hi]
  exact b_mono g (g.ris.up i hi) (t_lt g hi), fun i hi => by
  rw [comp_len] at hi ⊢
  rw [comp_at hi]
  exact b_lt g (t_lt g hi)⟩
theorem ris_tb : Ris (compT T (backT T)) := ⟨by rw [comp_len, back_len]; exact g.ris.pos, fun i hi => by
  rw [comp_len, back_len] at hi
  rw [comp_at (by rw [back_len]; omega), comp_at (by rw [back_len]; exact hi)]
  exact g.ris.mono (b_mono g (Nat.le_succ i) hi) (b_lt g hi), fun i hi => by
  rw [comp_len, back_len] at hi
  rw [comp_len, back_len, comp_at (by rw [back_len]; exact hi)]
  exact t_lt g (b_lt g hi)⟩
theorem rounds_bt : roundsB (compT (backT T) T) true = true := rounds_yes fun c hc => by
  rw [comp_len] at hc
  unfold rndAt
  rw [if_pos rfl, Bool.and_eq_true]
  rw [comp_at hc, comp_at (b_lt g (t_lt g hc)), tbt g hc]
  exact ⟨decide_eq_true (bt_ge g hc), decide_eq_true rfl⟩
theorem rounds_tb : roundsB (compT T (backT T)) false = true := rounds_yes fun c hc => by
  have hc2 := hc
  rw [comp_len] at hc2
  rw [comp_len, back_len] at hc
  unfold rndAt
  rw [if_neg (by decide), Bool.and_eq_true]
  rw [comp_at hc2, comp_at (by rw [back_len]; exact t_lt g (b_lt g hc)), btb g hc]
  exact ⟨decide_eq_true (tb_le g hc), decide_eq_true rfl⟩
end
theorem Ris.tb {T : List Nat} (r : Ris T) : Tb T.length T := ⟨rfl, fun k hk => by
  obtain ⟨i, hi, rfl⟩ := List.getElem_of_mem hk
  have := r.lt i hi
  simpa [hi] using this⟩
/-! ### the tables of a set of shown steps -/
def fUp (n c : Nat) (M : List Nat) : Nat := M.foldr (fun m acc => if c ≤ m then m else acc) (n - 1)
def fDn (c : Nat) (N : List Nat) : Nat := N.foldr (fun m acc => if m ≤ c then m else acc) 0
theorem up_cons (n c m : Nat) (M : List Nat) : fUp n c (m :: M) = if c ≤ m then m else fUp n c M := rfl
theorem dn_cons (c m : Nat) (N : List Nat) : fDn c (m :: N) = if m ≤ c then m else fDn c N := rfl
theorem up_ge {n c : Nat} (hc : c < n) : ∀ M : List Nat, c ≤ fUp n c M
  | [] => by show c ≤ n - 1; omega
  | m :: M => by
    rw [up_cons]
    split
    · assumption
    · exact up_ge hc M
theorem up_lt {n c : Nat} (hn : 0 < n) : ∀ {M : List Nat}, (∀ m ∈ M, m < n) → fUp n c M < n
  | [], _ => by show n - 1 < n; omega
  | m :: M, h => by
    rw [up_cons]
    split
    · exact h m List.mem_cons_self
    · exact up_lt hn fun k hk => h k (List.mem_cons_of_mem _ hk)
theorem up_mono {n c d : Nat} (h : c ≤ d) (hd : d < n) : ∀ M : List Nat, fUp n c M ≤ fUp n d M
  | [] => Nat.le_refl _
  | m :: M => by
    have ih := up_mono h hd M
    have ge := up_ge hd M
    rw [up_cons, up_cons]
    split <;> split <;> omega
theorem up_idem {n c : Nat} (hc : c < n) : ∀ M : List Nat, fUp n (fUp n c M) M = fUp n c M
  | [] => rfl
  | m :: M => by
    have ih := up_idem hc M
    have ge := up_ge hc M
    by_cases h : c ≤ m
    · rw [up_cons n c, if_pos h, up_cons, if_pos (Nat.le_refl _)]
    · rw [up_cons n c, if_neg h, up_cons, if_neg (by omega), ih]
theorem dn_le (c : Nat) : ∀ N : List Nat, fDn c N ≤ c
  | [] => Nat.zero_le _
  | m :: N => by
    rw [dn_cons]
    split
    · assumption
    · exact dn_le c N
theorem dn_mono {c d : Nat} (h : c ≤ d) : ∀ N : List Nat, fDn c N ≤ fDn d N
  | [] => Nat.le_refl _
  | m :: N => by
    have ih := dn_mono h N
    have le := dn_le c N
    rw [dn_cons, dn_cons]
    split <;> split <;> omega
theorem dn_idem (c : Nat) : ∀ N : List Nat, fDn (fDn c N) N = fDn c N
  | [] => rfl
  | m :: N => by
    have ih := dn_idem c N
    have le := dn_le c N
    by_cases h : m ≤ c
    · rw [dn_cons c, if_pos h, dn_cons, if_pos (Nat.le_refl _)]
    · rw [dn_cons c, if_neg h, dn_cons, if_neg (by omega), ih]
theorem upT_len (M : List Nat) (n : Nat) : (upT M n).length = n := by simp [upT]
theorem dnT_len (M : List Nat) (n : Nat) : (dnT M n).length = n := by simp [dnT]
theorem upT_at {M : List Nat} {n c : Nat} (hc : c < n) : (upT M n).getD c 0 = fUp n c M := range_at hc
theorem dnT_at {M : List Nat} {n c : Nat} (hc : c < n) : (dnT M n).getD c 0 = fDn c M.reverse := by
  unfold dnT
  rw [range_at hc]
  unfold fDn
  rw [List.foldr_reverse]
theorem dn_grd (M : List Nat) {n : Nat} (h1 : 1 ≤ n) (h60 : n ≤ 60) : Grd (dnT M n) := by
  refine ⟨⟨by rw [dnT_len]; omega, fun i hi => ?_, fun i hi => ?_⟩, ?_, by rw [dnT_len]; exact h60⟩
  · rw [dnT_len] at hi
    rw [dnT_at (by omega), dnT_at hi]
    exact dn_mono (Nat.le_succ i) _
  · rw [dnT_len] at hi ⊢
    rw [dnT_at hi]
    have := dn_le i M.reverse
    omega
  · rw [dnT_at (by omega)]
    have := dn_le 0 M.reverse
    omega
theorem dn_back (M : List Nat) {n : Nat} (h1 : 1 ≤ n) (h60 : n ≤ 60) : compT (dnT M n) (backT (dnT M n)) = dnT M n := by
  have g := dn_grd M h1 h60
  refine ext_getD (by rw [comp_len, back_len]) fun c hc => ?_
  rw [comp_len, back_len, dnT_len] at hc
  have hcl : c < (dnT M n).length := by rw [dnT_len]; exact hc
  rw [comp_at (by rw [back_len]; exact hcl)]
  have e1 := tb_le g hcl
  have bl := b_lt g hcl
  have bn := bl
  rw [dnT_len] at bn
  have cb := (bk_of g hcl).max c hcl (by rw [dnT_at hc]; exact dn_le _ _)
  have e2 := g.ris.mono cb bl
  generalize (backT (dnT M n)).getD c 0 = b at e1 bl bn cb e2 ⊢
  rw [dnT_at hc] at e2 ⊢
  rw [dnT_at bn] at e1 e2 ⊢
  have i1 := dn_idem b M.reverse
  have i2 := dn_mono e1 M.reverse
  omega
theorem dd_mem (U : List Nat) : ∀ x, x ∈ ddN U ↔ x ∈ U := by
  have key : ∀ (U acc : List Nat) (x : Nat), x ∈ U.foldl (fun acc x => if x ∈ acc then acc else acc ++ [x]) acc ↔ x ∈ acc ∨ x ∈ U := by
    intro U
    induction U with
    | nil => intro acc x; simp
    | cons u U ih =>
      intro acc x
      rw [List.foldl_cons, ih, List.mem_cons]
      by_cases h : u ∈ acc
      · rw [if_pos h]
        exact ⟨fun z => z.elim .inl fun y => .inr (.inr y), fun z => z.elim .inl fun y => y.elim (fun e => .inl (e ▸ h)) .inr⟩
      · rw [if_neg h, List.mem_append, List.mem_singleton]
        exact ⟨fun z => z.elim (fun y => y.elim .inl fun e => .inr (.inl e)) fun y => .inr (.inr y), fun z => z.elim (fun y => .inl (.inl y)) fun y => y.elim (fun e => .inl (.inr e)) .inr⟩
  intro x
  have z := key U [] x
  simpa [ddN] using z
theorem dd_le (U : List Nat) : (ddN U).length ≤ U.length := by
  have z := dd_len U U.length
  rwa [List.take_length] at z
def cnt (S : List Nat) (x : Nat) : Nat := (S.filter fun s => decide (s < x)).length
theorem cnt_cons (s : Nat) (S : List Nat) (x : Nat) : cnt (s :: S) x = (if s < x then 1 else 0) + cnt S x := by
  unfold cnt
  rw [List.filter_cons]
  by_cases h : s < x
  · simp [h]; omega
  · simp [h]
theorem cnt_mono {x y : Nat} (h : x ≤ y) : ∀ S : List Nat, cnt S x ≤ cnt S y
  | [] => Nat.le_refl _
  | s :: S => by
    have ih := cnt_mono h S
    rw [cnt_cons, cnt_cons]
    split <;> split <;> omega
theorem cnt_lt {x y : Nat} (h : x < y) : ∀ {S : List Nat}, x ∈ S → cnt S x < cnt S y
  | s :: S, m => by
    have mono := cnt_mono (Nat.le_of_lt h) S
    rw [cnt_cons, cnt_cons]
    rcases List.mem_cons.mp m with e | m
    · subst e
      rw [if_neg (Nat.lt_irrefl _), if_pos h]; omega
    · have ih := cnt_lt h m
      split <;> split <;> omega
theorem cnt_le (x : Nat) : ∀ S : List Nat, cnt S x ≤ S.length
  | [] => Nat.le_refl _
  | s :: S => by
    have ih := cnt_le x S
    rw [cnt_cons, List.length_cons]
    split <;> omega
theorem cnt_small {x : Nat} : ∀ {S : List Nat}, x ∈ S → cnt S x < S.length
  | s :: S, m => by
    have le := cnt_le x S
    rw [cnt_cons, List.length_cons]
    rcases List.mem_cons.mp m with e | m
    · subst e
      rw [if_neg (Nat.lt_irrefl _)]; omega
    · have ih := cnt_small m
      split <;> omega
theorem cnt_zero {x : Nat} : ∀ {S : List Nat}, (∀ s ∈ S, x ≤ s) → cnt S x = 0
  | [], _ => rfl
  | s :: S, h => by
    have ih := cnt_zero (S := S) fun k hk => h k (List.mem_cons_of_mem _ hk)
    have h1 := h s List.mem_cons_self
    rw [cnt_cons, if_neg (by omega), ih]
theorem num_len (U : List Nat) : (numT U).length = U.length := by simp [numT]
theorem num_at {U : List Nat} {c : Nat} (hc : c < U.length) : (numT U).getD c 0 = cnt (ddN U) (U.getD c 0) := by simp [numT, cnt, List.getD_eq_getElem?_getD, hc]
section
variable {M : List Nat} {n : Nat} (h1 : 1 ≤ n) (h60 : n ≤ 60) (hM : ∀ m ∈ M, m < n)
include h1 h60 hM
theorem upT_mem {c : Nat} (hc : c < n) : (upT M n).getD c 0 ∈ ddN (upT M n) := (dd_mem _ _).mpr (getD_mem (by rw [upT_len]; exact hc))
theorem up_grd : Grd (numT (upT M n)) := by
  refine ⟨⟨by rw [num_len, upT_len]; omega, fun i hi => ?_, fun i hi => ?_⟩, ?_, by rw [num_len, upT_len]; exact h60⟩
  · rw [num_len, upT_len] at hi
    rw [num_at (by rw [upT_len]; omega), num_at (by rw [upT_len]; exact hi)]
    refine cnt_mono ?_ _
    rw [upT_at (by omega), upT_at hi]
    exact up_mono (Nat.le_succ i) hi M
  · rw [num_len, upT_len] at hi ⊢
    rw [num_at (by rw [upT_len]; exact hi)]
    have z := cnt_small (upT_mem h1 h60 hM hi)
    have y := dd_le (upT M n)
    rw [upT_len] at y
    omega
  · rw [num_at (by rw [upT_len]; omega)]
    refine cnt_zero fun s hs => ?_
    obtain ⟨i, hi, rfl⟩ := List.getElem_of_mem ((dd_mem _ _).mp hs)
    have e : (upT M n)[i] = (upT M n).getD i 0 := by simp [List.getD_eq_getElem?_getD, hi]
    rw [upT_len] at hi
    rw [e, upT_at (by omega), upT_at hi]
    exact up_mono (Nat.zero_le _) hi M
theorem up_back : compT (backT (numT (upT M n))) (numT (upT M n)) = upT M n := by
  have g := up_grd h1 h60 hM
  refine ext_getD (by rw [comp_len, num_len]) fun c hc => ?_
  rw [comp_len, num_len, upT_len] at hc
  have ln : (numT (upT M n)).length = n := by rw [num_len, upT_len]
  have at_ : ∀ {d : Nat}, d < n → (numT (upT M n)).getD d 0 = cnt (ddN (upT M n)) (fUp n d M) := fun {d} hd => by
    rw [num_at (by rw [upT_len]; exact hd), upT_at hd]
  have ul : fUp n c M < n := up_lt h1 hM
  rw [comp_at (by rw [ln]; exact hc), upT_at hc]
  have tl := t_lt g (c := c) (by rw [ln]; exact hc)
  refine bk_eq g tl ⟨by rw [ln]; exact ul, ?_, fun d hd hle => ?_⟩
  · rw [at_ ul, at_ hc, up_idem hc]
    exact Nat.le_refl _
  · rw [ln] at hd
    rw [at_ hd, at_ hc] at hle
    have ge := up_ge hd M
    rcases Nat.lt_or_ge (fUp n c M) (fUp n d M) with h | h
    · have mem := upT_mem h1 h60 hM hc
      rw [upT_at hc] at mem
      have := cnt_lt h mem
      omega
    · omega
theorem up_ris : Ris (upT M n) := ⟨by rw [upT_len]; omega, fun i hi => by
  rw [upT_len] at hi
  rw [upT_at (by omega), upT_at hi]
  exact up_mono (Nat.le_succ i) hi M, fun i hi => by
  rw [upT_len] at hi ⊢
  rw [upT_at hi]
  exact up_lt h1 hM⟩
end
end Z
end
/-! Z17 -/
set_option linter.all false
set_option maxRecDepth 100000
set_option maxHeartbeats 4000000
noncomputable section
namespace Z
open PySem PySem.Spec PyProof.Rows L2 PySem.Froz Evl TS

/-- two new lists in a new one -/
def Ret2 (xs ys : List V) (H : Hp) (Q : VK) : Prop := ∀ p r t H2, H p = none → H r = none → H t = none → p ≠ r → p ≠ t → r ≠ t → Ex H H2 → H2 p = some (.lst [.ref r, .ref t]) → H2 r = some (.lst xs) → H2 t = some (.lst ys) → Q (.ref p) H2
section
variable {P : Program} {w : World} {K : PySem.W.Frag} {mg : PySem.Str → Option Value} {σ : L2.St} {H : Hp} {ta tb te : TE} {CF CW : Addr} {l : PySem.Str} {T : List Nat}
/-- World(len(t), {}, {l: list(t)}, Facts.listed([], l)) -/
theorem evp_world {a : Addr} {i j : Nat} {E E2 : XK} (hi : σ[i]? = some (some (.ref a))) (hj : σ[j]? = some (some (.str l))) (ha : SqL K H a (nv T)) (g : Grd T) (hl : One l) :
    EvP (tMake CW (spWI CF CW) [] E (tCons (tCB (rLenS K) (tCons (tVar i) tNil)) (tCons tDNewK (tCons (tDisp [(tVar j, tCB (rListS K) (tCons (tVar i) tNil))]) (tCons (tSMeth CF (spListed K CF) [] E2 (tC (.ref CF)) (tCons (tLst tNil) (tCons (tVar j) tNil))) tNil))))) σ H (fun v H' => ∃ w, v = .ref w ∧ WAt CW H' w l T) := fun H1 e Q q => by
  refine ev_lenN' (ns := T) (ev_var hi) (ex_l e ha) H1 (Ex.refl _) _ fun H2 e2 => ?_
  intro pl hpl
  have n3 : Ex H2 (upd H2 pl (.dK [])) := Ex.new hpl
  have hp3 : (upd H2 pl (.dK [])) pl = some (.dK []) := upd_same
  generalize upd H2 pl (.dK []) = H3 at n3 hp3
  intro tb htb
  have n4 : Ex H3 (upd H3 tb (.dK [])) := Ex.new htb
  have hp4 : (upd H3 tb (.dK [])) tb = some (.dK []) := upd_same
  generalize upd H3 tb (.dK []) = H4 at n4 hp4
  have e4 : Ex H H4 := ((e.trans e2).trans n3).trans n4
  refine ⟨.str l, hj, ?_⟩
  refine el_list (K := K) (ev_var hi) (ex_l e4 ha) H4 (Ex.refl _) _ fun t H5 ht e5 h5 => ?_
  have htb5 := e5 _ _ hp4
  refine ⟨htb5, [(.inr l, .ref t)], rfl, by show 1 ≤ 15; decide, ?_⟩
  have nt : tb ≠ t := fun z => by rw [z] at hp4; rw [hp4] at ht; cases ht
  have m6 : ∀ b o, b ≠ tb → H5 b = some o → (upd H5 tb (.dK (mergeK [] [(.inr l, .ref t)]))) b = some o := fun b o nb hb => by rw [upd_ne nb]; exact hb
  have htb6 : (upd H5 tb (.dK (mergeK [] [(.inr l, .ref t)]))) tb = some (.dK [(.inr l, .ref t)]) := by rw [upd_same]; rfl
  have ex6 : Ex H3 (upd H5 tb (.dK (mergeK [] [(.inr l, .ref t)]))) := fun b o hb => m6 b o (fun z => by rw [z, htb] at hb; cases hb) (e5 _ _ (n4 _ _ hb))
  have ht6 := m6 t _ (Ne.symm nt) h5
  generalize upd H5 tb (.dK (mergeK [] [(.inr l, .ref t)])) = H6 at ex6 htb6 ht6
  refine ⟨rfl, ?_⟩
  refine ⟨by rw [sizeLine_eq]; decide, fun p hp => ?_⟩
  have n7 : Ex H6 (upd H6 p (.lst [])) := Ex.new hp
  have hp7 : (upd H6 p (.lst [])) p = some (.lst []) := upd_same
  generalize upd H6 p (.lst []) = H7 at n7 hp7
  refine ⟨.str l, hj, ?_⟩
  refine ⟨p, l, rfl, sq_of hp7, hl, fun fa H8 hfa e8 hF => ?_⟩
  intro x dx hx hdx hne
  have m := upd_make (C := CW) hx hdx
  have hxs : (upd (upd H8 dx (.own x)) x (.ins CW dx [])) x = some (.ins CW dx []) := upd_same
  generalize upd (upd H8 dx (.own x)) x (.ins CW dx []) = H9 at m hxs
  have e69 : Ex H6 H9 := (n7.trans e8).trans m
  have e39 : Ex H3 H9 := ex6.trans e69
  refine ⟨x, dx, pl, tb, fa, t, l, T, rfl, hxs, e39 _ _ hp3, e69 _ _ htb6, e69 _ _ ht6, hF.mono m, hl, g, fun H10 b10 hW => ⟨rfl, q _ H10 ?_ ⟨x, rfl, hW⟩⟩⟩
  have hx1 : H1 x = none := fresh_back ((e2.trans n3).trans (ex6.trans (n7.trans e8))) hx
  exact b10.base ((e2.trans n3).trans e39) hx1
theorem sl_put {a b : Addr} {o i : List Nat} (ha : SqL K H a (nv o)) (hb : SqL K H b (nv i)) (hz : i.length ≤ 1000) (hk : ∀ k ∈ i, k < o.length) : SpL (spPut K) [.ref a, .ref b] H (nv (compT o i)) := fun H1 e Q q E => ⟨a, b, o, i, rfl, ex_l e ha, ex_l e hb, hz, hk, fun p H2 hp e2 h2 => q p H2 hp e2 h2⟩
theorem sl_lback {a : Addr} (ha : SqL K H a (nv T)) (g : Grd T) : SpL (spLB K) [.ref a] H (nv (backT T)) := fun H1 e Q q E => ⟨a, T, rfl, ex_l e ha, g, fun p H2 hp e2 h2 => q p H2 hp e2 h2⟩
/-- the first is a new list -/
theorem ev_sameL {b : Addr} {U : List Nat} {E : XK} (h : EvL ta σ H (nv U)) (hb : ∀ H1, Ex H H1 → Ev tb σ H1 (.ref b)) (hB : SqL K H b (nv U)) (hz : U.length ≤ 1000) : Ev (tCall (spSame K) [] E (tCons ta (tCons tb tNil))) σ H (.bl true) := fun H1 e Q q =>
  h H1 e _ fun p H2 hp e2 h2 => hb H2 (e.trans e2) H2 (Ex.refl _) _ fun H3 e3 => ⟨p, b, U, rfl, sq_of (e3 _ _ h2), ex_l ((e.trans e2).trans e3) hB, hz, fun H4 e4 => q H4 ((e2.trans e3).trans e4)⟩
theorem ev_same {a b : Addr} {U : List Nat} {E : XK} (h : Ev ta σ H (.ref a)) (hb : Ev tb σ H (.ref b)) (hA : SqL K H a (nv U)) (hB : SqL K H b (nv U)) (hz : U.length ≤ 1000) : Ev (tCall (spSame K) [] E (tCons ta (tCons tb tNil))) σ H (.bl true) :=
  ev_call (ea_cons h (ea_cons hb ea_nil)) (sv_same hA hB hz)
theorem rv_catS {x y : PySem.Str} {H : Hp} (h : x.length + y.length ≤ 100000) : RV (fun x y H Q => ∃ i j, x = .str i ∧ y = .str j ∧ i.length + j.length ≤ sizeLine ∧ Q (.str (i ++ j)) H) (.str x) (.str y) H (.str (x ++ y)) := fun H1 _ _ q => ⟨x, y, rfl, rfl, sz_of h, q H1 (Ex.refl H1)⟩
/-! ### heads of the letter and its capital -/
theorem signs_app (x y : PySem.Str) : TS.signs (x ++ y) = TS.signs x ++ TS.signs y := by
  obtain ⟨a⟩ := x
  obtain ⟨b⟩ := y
  show TS.signs ⟨a ++ b⟩ = _
  simp [TS.signs]
theorem signs_one {x : PySem.Str} (h : x.length = 1) : TS.signs x = [x] := by
  obtain ⟨c, rfl⟩ := one_sign h
  rfl
theorem len_app (x y : PySem.Str) : (x ++ y).length = x.length + y.length := by
  obtain ⟨a⟩ := x
  obtain ⟨b⟩ := y
  show (a ++ b).size = a.size + b.size
  simp
/-- letters with their tables -/
structure Head (l : PySem.Str) (T : List Nat) (x : PySem.Str) (Us : List (List Nat)) : Prop where
  len : x.length ≤ 1000
  n : Us.length = (TS.signs x).length
  at_ : ∀ (i : Nat) c U, (TS.signs x)[i]? = some c → Us[i]? = some U → Shows l T c U
theorem Head.one {x : PySem.Str} {U : List Nat} (h : x.length = 1) (s : Shows l T x U) : Head l T x [U] := by
  refine ⟨by omega, by rw [signs_one h]; rfl, fun i c V hc hV => ?_⟩
  rw [signs_one h] at hc
  match i, hc, hV with
  | 0, hc, hV =>
    have e1 : x = c := by simpa using hc
    have e2 : U = V := by simpa using hV
    rw [← e1, ← e2]; exact s
theorem Head.app {x y : PySem.Str} {Us Vs : List (List Nat)} (h : Head l T x Us) (h' : Head l T y Vs) (hz : x.length + y.length ≤ 1000) : Head l T (x ++ y) (Us ++ Vs) := by
  refine ⟨by rw [len_app]; exact hz, by rw [signs_app, List.length_append, List.length_append, h.n, h'.n], fun i c V hc hV => ?_⟩
  rw [signs_app] at hc
  by_cases hi : i < Us.length
  · rw [List.getElem?_append_left (by rw [← h.n]; exact hi)] at hc
    rw [List.getElem?_append_left hi] at hV
    exact h.at_ i c V hc hV
  · rw [List.getElem?_append_right (by rw [← h.n]; omega), ← h.n] at hc
    rw [List.getElem?_append_right (by omega)] at hV
    exact h'.at_ _ c V hc hV
theorem head_l (hl : One l) : Head l T l [T] := .one hl.len (.inl ⟨rfl, rfl⟩)
theorem head_u (hl : One l) : Head l T (Txt.upper l) [backT T] := .one (up_len hl) (.inr ⟨rfl, rfl⟩)
theorem sl_HT {a : Addr} {x : PySem.Str} {Us : List (List Nat)} (hW : WAt CW H a l T) (hl : One l) (g : Grd T) (h : Head l T x Us) : SpL (spHT CW) [.ref a, .str x] H (nv (headT T.length Us)) := fun H1 e Q q E => ⟨a, l, x, T, Us, rfl, hW.mono e, hl, g, h.len, h.n, h.at_, fun p H2 hp e2 h2 => q p H2 hp e2 h2⟩
theorem sl_TO {a : Addr} {x : PySem.Str} {U : List Nat} (hW : WAt CW H a l T) (hl : One l) (s : Shows l T x U) : SpL (spTO CW) [.ref a, .str x] H (nv U) := fun H1 e Q q E => ⟨a, l, x, T, U, rfl, hW.mono e, hl, s, fun p H2 hp e2 h2 => q p H2 hp e2 h2⟩
section
variable {a : Addr} (hW : WAt CW H a l T) (hl : One l) (g : Grd T)
include hW hl g
theorem sl_hbt : SpL (spHT CW) [.ref a, .str (Txt.upper l ++ l)] H (nv (compT (backT T) T)) := by
  have h1 := hl.len
  have h2 := up_len hl
  have z := sl_HT hW hl g ((head_u hl).app (head_l hl) (by omega))
  rw [show ([backT T] ++ [T] : List (List Nat)) = [backT T, T] from rfl, head_bt g] at z
  exact z
theorem sl_htb : SpL (spHT CW) [.ref a, .str (l ++ Txt.upper l)] H (nv (compT T (backT T))) := by
  have h1 := hl.len
  have h2 := up_len hl
  have z := sl_HT hW hl g ((head_l hl).app (head_u hl) (by omega))
  rw [show ([T] ++ [backT T] : List (List Nat)) = [T, backT T] from rfl, head_tb g] at z
  exact z
theorem sl_htbt : SpL (spHT CW) [.ref a, .str (l ++ Txt.upper l ++ l)] H (nv T) := by
  have h1 := hl.len
  have h2 := up_len hl
  have z := sl_HT hW hl g (((head_l hl).app (head_u hl) (by omega)).app (head_l hl) (by rw [len_app]; omega))
  rw [show ([T] ++ [backT T] ++ [T] : List (List Nat)) = [T, backT T, T] from rfl, head_tbt g] at z
  exact z
theorem sl_hbtb : SpL (spHT CW) [.ref a, .str (Txt.upper l ++ l ++ Txt.upper l)] H (nv (backT T)) := by
  have h1 := hl.len
  have h2 := up_len hl
  have z := sl_HT hW hl g (((head_u hl).app (head_l hl) (by omega)).app (head_u hl) (by rw [len_app]; omega))
  rw [show ([backT T] ++ [T] ++ [backT T] : List (List Nat)) = [backT T, T, backT T] from rfl, head_btb g] at z
  exact z
end
/-- a method of the world that gives a new list -/
theorem el_wmeth {a : Addr} {m : PySem.Str} {sp : Sp} {E : XK} {te tx : TE} {x : PySem.Str} {xs : List V} (h : Ev te σ H (.ref a)) (hW : WAt CW H a l T) (hm : ∀ fa pl tb bk, (fW fa T.length pl tb bk).lookup m = none) (hx : Ev tx σ H (.str x)) (hs : SpL sp [.ref a, .str x] H xs) : EvL (tMeth CW m sp [] E te (tCons tx tNil)) σ H xs := by
  obtain ⟨dx, fa, pl, tb, bk, t, b, h1, _⟩ := hW
  exact el_meth h h1 (hm _ _ _ _) (ea_cons hx ea_nil) hs
end
end Z
end
/-! Z18 -/
set_option linter.all false
set_option maxRecDepth 100000
set_option maxHeartbeats 4000000
noncomputable section
namespace Z
open PySem PySem.Spec PyProof.Rows L2 PySem.Froz Evl TS

section
variable {P : Program} {w : World} {K : PySem.W.Frag} {mg : PySem.Str → Option Value} {base : Heap} {f f1 f2 f3 f4 f5 f6 fL fW1 fT fH CF CW pL : Addr} {fd fd1 fd2 fd3 fd4 fd5 fd6 fdL fdW fdT fdH : FuncData} {mcF : Value}
/-! ### _law_pair -/
abbrev s_pair : Stmt := top 64
abbrev nPr : List PySem.Str := ["_law_table", "_law_dial", "_law_back_here", "_law_due", "_law_step", "_law_world", "_law_capital", "_law_turn", "_law_kept", "_law_told", "_law_found", "_law_seen", "_law_k"]
def spPair (K : PySem.W.Frag) : Sp := fun vs H Q _ => ∃ (a : Addr) (l : PySem.Str) (T : List Nat), vs = [.ref a, .str l] ∧ SqL K H a (nv T) ∧ Grd T ∧ One l ∧ Ret2 (nv (compT (backT T) T)) (nv (compT T (backT T))) H Q
theorem scPr : FnScope nPr ["_law_table", "_law_dial"] (defScope s_pair) := ⟨rfl, rfl, rfl, by decide +kernel, rfl, by decide +kernel, by decide +kernel⟩
/-- what the law's pair needs of the program -/
structure PairFn (P : Program) (w : World) (K : PySem.W.Frag) (mg : PySem.Str → Option Value) (base : Heap) (CF CW : Addr) (mcF : Value) (f1 f2 f3 f4 fL fW1 fT fH pL : Addr) (fd1 fd2 fd3 fd4 fdL fdW fdT fdH : FuncData) : Prop where
  W : Wd mg
  FC : FCls K mg CF
  WC : WCls K mg CW
  D1 : Dat K mg "_law_back" s_lback ["_law_table"] f1 fd1
  G1 : FnOk P w K mg base (L2.CX P w) 1 f1 fd1 ["_law_table"] (spLB K)
  D2 : Dat K mg "back_table" s_back ["table"] f2 fd2
  G2 : FnOk P w K mg base (L2.CX P w) 2 f2 fd2 ["table"] (spBack K)
  D3 : Dat K mg "_law_same_steps" s_same ["_law_actual", "_law_due"] f3 fd3
  G3 : FnOk P w K mg base (L2.CX P w) 2 f3 fd3 ["_law_actual", "_law_due"] (spSame K)
  D4 : Dat K mg "put_on" s_put_on ["outer", "inner"] f4 fd4
  G4 : FnOk P w K mg base (L2.CX P w) 1 f4 fd4 ["outer", "inner"] (spPut K)
  rF : ClX.CRead K CF mcF
  sL : SMet K CF mcF "listed" pL fL
  DL : DatD K "listed" "Facts.listed" s_listed [.str ""] [] ["pairs", "paired"] fL fdL
  GL : FnOk P w K mg base (L2.CX P w) 5 fL fdL ["pairs", "paired"] (spListed K CF)
  MW : Mk K CW fW1
  DW : DatD K "__init__" "World.__init__" s_winit [.non] [] pWI fW1 fdW
  GW : FnOk P w K mg base (L2.CX P w) 4 fW1 fdW pWI (spWI CF CW)
  mT : Meth K CW "table_of" fT
  DT : DatM K "table_of" "World.table_of" s_table_of ["self", "letter"] fT fdT
  GT : FnOk P w K mg base (L2.CX P w) 2 fT fdT ["self", "letter"] (spTO CW)
  mH : Meth K CW "head_table" fH
  DH : DatM K "head_table" "World.head_table" s_headT ["self", "head"] fH fdH
  GH : FnOk P w K mg base (L2.CX P w) 3 fH fdH ["self", "head"] (spHT CW)
theorem ok_pair (F : PairFn P w K mg base CF CW mcF f1 f2 f3 f4 fL fW1 fT fH pL fd1 fd2 fd3 fd4 fdL fdW fdT fdH) (D : Dat K mg "_law_pair" s_pair ["_law_table", "_law_dial"] f fd) : FnOk P w K mg base (L2.CX P w) 6 f fd ["_law_table", "_law_dial"] (spPair K) := by
  have W := F.W
  refine D.F.okX scPr (fun vs H Q E h => ?_) (fun cdv A outer s H vs Q E hr h => ?_)
  · obtain ⟨a, l, T, rfl, _⟩ := h
    rfl
  · obtain ⟨a, l, T, rfl, ha, g, hl, k⟩ := h
    have hr1 : Room 1 _ := hr.mono (by decide)
    have hr2 : Room 2 _ := hr.mono (by decide)
    have hr3 : Room 3 _ := hr.mono (by decide)
    have same : ∀ {X : Cx}, True := fun {_} => trivial
    refine ⟨_, pss_cons (ps_set (i := 2) scPr.nd rfl (Or.inr rfl) (pe_call F.G1 hr1 rfl F.D1.g F.D1.k F.D1.b .nil pas0 (pa_cons (pv 0) pa_nil)))
      (pss_cons (ps_set (i := 3) scPr.nd rfl (Or.inl rfl) (pe_lst (pa_cons (pe_l1 (own := [("_law_step", 4)]) (g := gName 4) (te := tOp (rIxL K) (tVar 2) (tVar 4)) rfl scPr.nd (pi_list (pv 0)) (blkOk_by (N := nPr) (sc := defScope s_pair) (by decide +kernel))
          (fun _ _ _ _ _ => pg_name (i := 4) scPr.nd rfl (Or.inl rfl)) (fun _ _ _ _ _ => pts_nil) (fun _ _ _ _ _ => pe_ix ix_list (pv 2) (pv 4) (fun _ _ => rfl)))
        (pa_cons (pe_l1 (own := [("_law_step", 4)]) (g := gName 4) (te := tOp (rIxL K) (tVar 0) (tVar 4)) rfl scPr.nd (pi_list (pv 2)) (blkOk_by (N := nPr) (sc := defScope s_pair) (by decide +kernel))
          (fun _ _ _ _ _ => pg_name (i := 4) scPr.nd rfl (Or.inl rfl)) (fun _ _ _ _ _ => pts_nil) (fun _ _ _ _ _ => pe_ix ix_list (pv 0) (pv 4) (fun _ _ => rfl))) pa_nil))))
      (pss_cons (ps_set (i := 5) scPr.nd rfl (Or.inl rfl) (pe_make F.MW F.GW hr rfl F.WC.g F.DW.b .nil (pas0 (X := cxOf (L2.CX P w) P w K mg base nPr "_law_pair" (defScope s_pair) f cdv A outer s H E)) (pa_cons (pe_callB call_len_seq (by rfl) W.len PySem.boot_len (pa_cons (pv 0) pa_nil)) (pa_cons pe_dnewK (pa_cons (pe_disp (pps_cons (pv 1) (pe_callTy call_list_of rfl W.list PyProof.Rows.boot_list (pa_cons (pv 0) pa_nil)) pps_nil) rfl rfl (by simp) (by simp))
          (pa_cons (pe_smeth (pe_glob (v := .ref CF) rfl F.FC.g rfl) F.rF F.sL F.GL hr F.DL.b .nil (pas0 (X := cxOf (L2.CX P w) P w K mg base nPr "_law_pair" (defScope s_pair) f cdv A outer s H E)) (pa_cons (pe_lst pa_nil) (pa_cons (pv 1) pa_nil))) pa_nil))))))
      (pss_cons (ps_set (i := 6) scPr.nd rfl (Or.inl rfl) (pe_upper (pv 1)))
      (pss_cons (ps_for (passes_of rfl) rfl (pi_range1 rfl W.range (pa_cons pe_int pa_nil)) (pg_name (i := 7) scPr.nd rfl (Or.inl rfl))
        (pss_cons (ps_set (i := 8) scPr.nd rfl (Or.inl rfl) (pe_callTy call_list_of rfl W.list PyProof.Rows.boot_list (pa_cons (pv 0) pa_nil)))
        (pss_cons (ps_set (i := 9) scPr.nd rfl (Or.inl rfl) (pe_call F.G2 hr2 rfl F.D2.g F.D2.k F.D2.b .nil pas0 (pa_cons (pv 8) pa_nil)))
        (pss_cons (ps_if (PW.pt (pw_or (pt_not (pt_val (pe_call F.G3 hr2 rfl F.D3.g F.D3.k F.D3.b .nil pas0 (pa_cons (pv 9) (pa_cons (pv 2) pa_nil))))) (pw_or1 (pt_not (pt_val (pe_call F.G3 hr2 rfl F.D3.g F.D3.k F.D3.b .nil pas0 (pa_cons (pe_meth (pv 5) F.WC.c F.mT F.GT hr2 F.DT.b .nil (pas0 (X := cxOf (L2.CX P w) P w K mg base nPr "_law_pair" (defScope s_pair) f cdv A outer s H E)) (pa_cons (pv 6) pa_nil)) (pa_cons (pv 2) pa_nil)))))))) pss_no pss_nil)
        (pss_cons (ps_set (i := 10) scPr.nd rfl (Or.inl rfl) (pe_lst (pa_cons (pe_call F.G4 hr1 rfl F.D4.g F.D4.k F.D4.b .nil pas0 (pa_cons (pv 9) (pa_cons (pv 8) pa_nil))) (pa_cons (pe_call F.G4 hr1 rfl F.D4.g F.D4.k F.D4.b .nil pas0 (pa_cons (pv 8) (pa_cons (pv 9) pa_nil))) pa_nil))))
        (pss_cons (ps_set (i := 11) scPr.nd rfl (Or.inl rfl) (pe_lst (pa_cons (pe_meth (pv 5) F.WC.c F.mH F.GH hr3 F.DH.b .nil (pas0 (X := cxOf (L2.CX P w) P w K mg base nPr "_law_pair" (defScope s_pair) f cdv A outer s H E)) (pa_cons (pe_op op_add_str (pv 6) (pv 1)) pa_nil)) (pa_cons (pe_meth (pv 5) F.WC.c F.mH F.GH hr3 F.DH.b .nil (pas0 (X := cxOf (L2.CX P w) P w K mg base nPr "_law_pair" (defScope s_pair) f cdv A outer s H E)) (pa_cons (pe_op op_add_str (pv 1) (pv 6)) pa_nil)) pa_nil))))
        (pss_cons (ps_for (passes_of rfl) rfl (pi_range1 rfl W.range (pa_cons pe_int pa_nil)) (pg_name (i := 12) scPr.nd rfl (Or.inl rfl))
          (pss_cons (ps_if (PW.pt (pw_or (pt_not (pt_val (pe_call F.G3 hr2 rfl F.D3.g F.D3.k F.D3.b .nil pas0 (pa_cons (pe_ix ix_list (pv 10) (pv 12) (fun _ _ => rfl)) (pa_cons (pe_ix ix_list (pv 3) (pv 12) (fun _ _ => rfl)) pa_nil))))) (pw_or1 (pt_not (pt_val (pe_call F.G3 hr2 rfl F.D3.g F.D3.k F.D3.b .nil pas0 (pa_cons (pe_ix ix_list (pv 11) (pv 12) (fun _ _ => rfl)) (pa_cons (pe_ix ix_list (pv 3) (pv 12) (fun _ _ => rfl)) pa_nil)))))))) pss_no pss_nil)
          (pss_cons (ps_asg (pe_un un_neg pe_int) (pg_sub (pe_ix ix_list (pv 10) (pv 12) (fun _ _ => rfl)) pe_int set_list))
          (pss_one (ps_expr (pe_bm PySem.F.plainAttrs_list PySem.F.slot_list_append PySem.F.type_list_append mt_append (pe_ix ix_list (pv 11) (pv 12) (fun _ _ => rfl)) (pa_cons pe_int pa_nil)))))))
        (pss_cons (ps_if (pt_not (pt_val (pe_call F.G3 hr2 rfl F.D3.g F.D3.k F.D3.b .nil pas0 (pa_cons (pe_meth (pv 5) F.WC.c F.mH F.GH hr3 F.DH.b .nil (pas0 (X := cxOf (L2.CX P w) P w K mg base nPr "_law_pair" (defScope s_pair) f cdv A outer s H E)) (pa_cons (pe_op op_add_str (pe_op op_add_str (pv 1) (pv 6)) (pv 1)) pa_nil)) (pa_cons (pv 0) pa_nil))))) pss_no pss_nil)
        (pss_cons (ps_if (pt_not (pt_val (pe_call F.G3 hr2 rfl F.D3.g F.D3.k F.D3.b .nil pas0 (pa_cons (pe_meth (pv 5) F.WC.c F.mH F.GH hr3 F.DH.b .nil (pas0 (X := cxOf (L2.CX P w) P w K mg base nPr "_law_pair" (defScope s_pair) f cdv A outer s H E)) (pa_cons (pe_op op_add_str (pe_op op_add_str (pv 6) (pv 1)) (pv 6)) pa_nil)) (pa_cons (pv 2) pa_nil))))) pss_no pss_nil)
        (pss_cons (ps_if (pt_not (pt_val (pe_call F.G3 hr2 rfl F.D3.g F.D3.k F.D3.b .nil pas0 (pa_cons (pv 8) (pa_cons (pv 0) pa_nil))))) pss_no pss_nil)
        (pss_one (ps_expr (pe_bm PySem.F.plainAttrs_list PySem.F.slot_list_append PySem.F.type_list_append mt_append (pv 9) (pa_cons pe_int pa_nil))))))))))))))
      (pss_one (ps_ret (pv 3))))))), ?_⟩
    have hln : T.length ≤ 1000 := by have := g.len; omega
    have bln : (backT T).length = T.length := back_len T
    have tbT := g.tb
    have tbB := g.backTb
    refine q_asgL (el_call (ea_cons (ev_var rfl) ea_nil) (sl_lback ha g)) fun b H1 hb e1 h1 => ?_
    have ha1 := ex_l e1 ha
    refine q_asg2 (ew_two (el_put (P := P) (w := w) (K := K) (o := backT T) (i := T) (a := b) (b := a) (ev_var rfl) (fun _ _ _ => ev_var rfl) (sq_of h1) ha1 (by omega) (fun k hk => by rw [bln]; exact tbT.lt k hk) (fun _ => rfl) fun _ => rfl) (el_put (P := P) (w := w) (K := K) (o := T) (i := backT T) (a := a) (b := b) (ev_var rfl) (fun _ _ _ => ev_var rfl) ha1 (sq_of h1) (by omega) (fun k hk => tbB.lt k hk) (fun _ => rfl) fun _ => rfl)) fun d d0 d1 H2 hd hd0 hd1 nd0 nd1 nd01 e2 h2 h20 h21 => ?_
    have ha2 := ex_l e2 ha1
    have hb2 := e2 _ _ h1
    refine q_asgP (evp_world (K := K) (CF := CF) (CW := CW) (i := 0) (j := 1) (a := a) (T := T) rfl rfl ha2 g hl) fun wv H3 e3 ⟨wd, hwv, hW⟩ => ?_
    subst hwv
    have hl1 := hl.len
    have hu1 := up_len hl
    refine q_asg (ev_upper (ev_var rfl) (by omega)) fun H4 e4 => ?_
    have e34 := e3.trans e4
    have ha4 := ex_l e34 ha2
    have hb4 := e34 _ _ hb2
    have hd4 := e34 _ _ h2
    have hd04 := e34 _ _ h20
    have hd14 := e34 _ _ h21
    have hW4 := hW.mono e4
    have e14 : Ex H1 H4 := e2.trans e34
    have e04 : Ex H H4 := e1.trans e14
    obtain ⟨U, hU0, hU1⟩ : ∃ U : Nat → List Nat, U 0 = compT (backT T) T ∧ U 1 = compT T (backT T) := ⟨fun i => if i = 0 then compT (backT T) T else compT T (backT T), rfl, rfl⟩
    obtain ⟨dd, hdd0, hdd1⟩ : ∃ dd : Nat → Addr, dd 0 = d0 ∧ dd 1 = d1 := ⟨fun i => if i = 0 then d0 else d1, rfl, rfl⟩
    have two : ∀ {p : Nat → Prop}, p 0 → p 1 → ∀ i, i < 2 → p i := fun {p} h0 h1 i hi => match i, hi with
      | 0, _ => h0
      | 1, _ => h1
    have at2 : ∀ (F : Nat → Addr) (i : Nat), i < 2 → atI [V.ref (F 0), .ref (F 1)] (i : Int) = some (.ref (F i)) := fun F => two rfl rfl
    have hUl : ∀ i, i < 2 → (U i).length = T.length := two (by rw [hU0, comp_len]) (by rw [hU1, comp_len, bln])
    rw [← hdd0, ← hdd1] at hd4
    have hdU : ∀ i, i < 2 → H4 (dd i) = some (.lst (nv (U i))) := two (by rw [hdd0, hU0]; exact hd04) (by rw [hdd1, hU1]; exact hd14)
    refine q_forN (H := H4) (ei_rng1 (n := 2) (ea_cons ev_c ea_nil) (by decide) (by decide)) (Ex.refl H4) (fun _ σ' _ => ∃ v7 v8 v9 v10 v11 v12 : Option V, σ' = [some (.ref a), some (.str l), some (.ref b), some (.ref d), none, some (.ref wd), some (.str (Txt.upper l)), v7, v8, v9, v10, v11, v12]) (fun _ _ => ⟨none, none, none, none, none, none, rfl⟩) ?_ ?_
    · rintro G i y σ' H' eG nG eG' hy ⟨v7, v8, v9, v10, v11, v12, rfl⟩
      have e0 := eG.trans eG'
      refine q_asgL (el_list (K := K) (ev_var rfl) (ex_l e0 ha4)) fun kp Ha hkp ea hka => ?_
      refine q_asgL (el_call (ea_cons (ev_var rfl) ea_nil) (sl_back (sq_of hka) g)) fun td Hb htd eb htb => ?_
      have hkb := eb _ _ hka
      have e0b := (e0.trans ea).trans eb
      refine q_when (b := false) (et_is (et_or (a := false) (b := false) (et_is (et_not (et_B (ev_same (K := K) (U := backT T) (ev_var rfl) (ev_var rfl) (sq_of htb) (sq_of (e0b _ _ hb4)) (by omega)))) rfl) fun _ => et_is (et_not (et_B (ev_sameL (K := K) (U := backT T) (el_wmeth (ev_var rfl) (hW4.mono e0b) (fun _ _ _ _ => rfl) (ev_var rfl) (sl_TO (hW4.mono e0b) hl (.inr ⟨rfl, rfl⟩))) (fun _ _ => ev_var rfl) (sq_of (e0b _ _ hb4)) (by omega)))) rfl) rfl) (fun z => Bool.noConfusion z) fun _ Hc ec => ?_
      have hkc := ec _ _ hkb
      have htc := ec _ _ htb
      refine q_asg2 (ew_two (el_call (vs := [.ref td, .ref kp]) (ea_cons (ev_var rfl) (ea_cons (ev_var rfl) ea_nil)) (sl_put (K := K) (o := backT T) (i := T) (sq_of htc) (sq_of hkc) hln (fun k hk => by rw [bln]; exact tbT.lt k hk))) (el_call (vs := [.ref kp, .ref td]) (ea_cons (ev_var rfl) (ea_cons (ev_var rfl) ea_nil)) (sl_put (K := K) (o := T) (i := backT T) (sq_of hkc) (sq_of htc) (by omega) (fun k hk => tbB.lt k hk)))) fun fn f0 f1 Hd hfn hf0 hf1 nf0 nf1 nf01 ed hdn hdf0 hdf1 => ?_
      have e0d := (e0b.trans ec).trans ed
      have hWd := hW4.mono e0d
      refine q_asg2 (ew_two (el_wmeth (ev_var rfl) hWd (fun _ _ _ _ => rfl) (ev_op (ev_var rfl) (ev_var rfl) (rv_catS (by omega))) (sl_hbt hWd hl g)) (el_wmeth (ev_var rfl) hWd (fun _ _ _ _ => rfl) (ev_op (ev_var rfl) (ev_var rfl) (rv_catS (by omega))) (sl_htb hWd hl g))) fun sn s0 s1 He hsn hs0 hs1 ns0 ns1 ns01 ee hen hes0 hes1 => ?_
      have eGe : Ex G He := ((((eG'.trans ea).trans eb).trans ec).trans ed).trans ee
      have hkd := ed _ _ hkc
      have htd' := ed _ _ htc
      obtain ⟨F, hF0, hF1⟩ : ∃ F : Nat → Addr, F 0 = f0 ∧ F 1 = f1 := ⟨fun i => if i = 0 then f0 else f1, rfl, rfl⟩
      obtain ⟨S, hS0, hS1⟩ : ∃ S : Nat → Addr, S 0 = s0 ∧ S 1 = s1 := ⟨fun i => if i = 0 then s0 else s1, rfl, rfl⟩
      subst hF0 hF1 hS0 hS1
      have hFd : ∀ i, i < 2 → Hd (F i) = some (.lst (nv (U i))) := two (by rw [hU0]; exact hdf0) (by rw [hU1]; exact hdf1)
      have hSe : ∀ i, i < 2 → He (S i) = some (.lst (nv (U i))) := two (by rw [hU0]; exact hes0) (by rw [hU1]; exact hes1)
      have hFc : ∀ i, i < 2 → Hc (F i) = none := two hf0 hf1
      have hSd : ∀ i, i < 2 → Hd (S i) = none := two hs0 hs1
      have gF : ∀ i, i < 2 → G (F i) = none := fun i hi => fresh_back (((eG'.trans ea).trans eb).trans ec) (hFc i hi)
      have gS : ∀ i, i < 2 → G (S i) = none := fun i hi => fresh_back ((((eG'.trans ea).trans eb).trans ec).trans ed) (hSd i hi)
      have nFF : ∀ i j, i < 2 → j < 2 → i ≠ j → F i ≠ F j := fun i j hi hj hij => by
        revert j
        refine two (p := fun i => ∀ j, j < 2 → i ≠ j → F i ≠ F j) (two (fun z => absurd rfl z) fun _ => nf01) (two (fun _ => Ne.symm nf01) fun z => absurd rfl z) i hi
      have nSS : ∀ i j, i < 2 → j < 2 → i ≠ j → S i ≠ S j := fun i j hi hj hij => by
        revert j
        refine two (p := fun i => ∀ j, j < 2 → i ≠ j → S i ≠ S j) (two (fun z => absurd rfl z) fun _ => ns01) (two (fun _ => Ne.symm ns01) fun z => absurd rfl z) i hi
      have nSF : ∀ i j, i < 2 → j < 2 → S i ≠ F j := fun i j hi hj => ne_new (hFd j hj) (hSd i hi)
      have nFfn : ∀ i, i < 2 → F i ≠ fn := two (Ne.symm nf0) (Ne.symm nf1)
      have nSsn : ∀ i, i < 2 → S i ≠ sn := two (Ne.symm ns0) (Ne.symm ns1)
      have nSfn : ∀ i, i < 2 → S i ≠ fn := fun i hi => ne_new hdn (hSd i hi)
      have nFsn : ∀ i, i < 2 → F i ≠ sn := fun i hi => Ne.symm (ne_new (hFd i hi) hsn)
      have nFkp : ∀ i, i < 2 → F i ≠ kp := fun i hi => ne_new hkc (hFc i hi)
      have nFtd : ∀ i, i < 2 → F i ≠ td := fun i hi => ne_new htc (hFc i hi)
      have nSkp : ∀ i, i < 2 → S i ≠ kp := fun i hi => ne_new hkd (hSd i hi)
      have nStd : ∀ i, i < 2 → S i ≠ td := fun i hi => ne_new htd' (hSd i hi)
      refine q_forN (H := G) (ei_rng1 (n := 2) (ea_cons ev_c ea_nil) (by decide) (by decide)) eGe (fun i σ3 H3 => (∃ v12 : Option V, σ3 = [some (.ref a), some (.str l), some (.ref b), some (.ref d), none, some (.ref wd), some (.str (Txt.upper l)), some y, some (.ref kp), some (.ref td), some (.ref fn), some (.ref sn), v12]) ∧ H3 fn = some (.lst [.ref (F 0), .ref (F 1)]) ∧ H3 sn = some (.lst [.ref (S 0), .ref (S 1)]) ∧ (∀ j, i ≤ j → j < 2 → H3 (F j) = some (.lst (nv (U j))) ∧ H3 (S j) = some (.lst (nv (U j)))) ∧ H3 kp = some (.lst (nv T)) ∧ H3 td = some (.lst (nv (backT T))))
        (fun H5 e5 => ⟨⟨v12, rfl⟩, (ee.trans e5) _ _ hdn, e5 _ _ hen, fun j _ hj => ⟨(ee.trans e5) _ _ (hFd j hj), e5 _ _ (hSe j hj)⟩, (ee.trans e5) _ _ hkd, (ee.trans e5) _ _ htd'⟩) ?_ ?_
      · rintro G2 i x σ3 H3 eG2 nG2 eG2' hx ⟨⟨v12, rfl⟩, h3n, h3s, h3F, h3k, h3t⟩
        obtain ⟨hi', rfl⟩ := nums_at hx
        have hi : i < 2 := hi'
        rw [Int.zero_add]
        obtain ⟨hFi, hSi⟩ := h3F i (Nat.le_refl i) hi
        have e03 : Ex H4 H3 := (eG.trans eG2).trans eG2'
        have ui := hUl i hi
        have hT1 := g.ris.pos
        have g2F : G2 (F i) = none := nG2 _ (gF i hi) (by rw [ee _ _ (hFd i hi)]; exact fun z => nomatch z)
        have g2S : G2 (S i) = none := nG2 _ (gS i hi) (by rw [hSe i hi]; exact fun z => nomatch z)
        have nu : (nv (U i)).length = T.length := by rw [List.length_map]; exact ui
        refine q_when (b := false) (et_is (et_or (a := false) (b := false) (et_is (et_not (et_B (ev_same (K := K) (U := U i) (ev_op (ev_var rfl) (ev_var rfl) (rv_ixL (sq_of h3n) (at2 F i hi))) (ev_op (ev_var rfl) (ev_var rfl) (rv_ixL (sq_of (e03 _ _ hd4)) (at2 dd i hi))) (sq_of hFi) (sq_of (e03 _ _ (hdU i hi))) (by omega)))) rfl)
          fun _ => et_is (et_not (et_B (ev_same (K := K) (U := U i) (ev_op (ev_var rfl) (ev_var rfl) (rv_ixL (sq_of h3s) (at2 S i hi))) (ev_op (ev_var rfl) (ev_var rfl) (rv_ixL (sq_of (e03 _ _ hd4)) (at2 dd i hi))) (sq_of hSi) (sq_of (e03 _ _ (hdU i hi))) (by omega)))) rfl) rfl) (fun z => Bool.noConfusion z) fun _ H5 e5 => ?_
        refine q_setL (j := 0) (e5 _ _ hFi) ev_neg1 (ev_op (ev_var rfl) (ev_var rfl) (rv_ixL (sq_of (e5 _ _ h3n)) (at2 F i hi))) ev_c (by rw [nu]; exact hT1) fun H6 e6 => ?_
        have e36 := e5.trans e6
        have keep : ∀ b o, b ≠ F i → H6 b = some o → (upd H6 (F i) (.lst ((nv (U i)).set 0 (.int (-1))))) b = some o := fun b o n hb => by rw [upd_ne n]; exact hb
        have eG7 : Ex G2 (upd H6 (F i) (.lst ((nv (U i)).set 0 (.int (-1))))) := Ex.mut (eG2'.trans e36) g2F
        show tDrop _ _ _ (upd H6 (F i) (.lst ((nv (U i)).set 0 (.int (-1)))))
        generalize upd H6 (F i) (.lst ((nv (U i)).set 0 (.int (-1)))) = H7 at keep eG7
        refine s_app (l := S i) (keep _ _ (nSF i i hi hi) (e36 _ _ hSi)) (ev_op (ev_var rfl) (ev_var rfl) (rv_ixL (sq_of (keep _ _ (Ne.symm (nFsn i hi)) (e36 _ _ h3s))) (at2 S i hi))) ev_c (by rw [nu]; omega) fun H8 e8 => ?_
        have fin : ∀ b o, b ≠ F i → b ≠ S i → H3 b = some o → (upd H8 (S i) (.lst (nv (U i) ++ [.int 0]))) b = some o := fun b o n1 n2 hb => by
          rw [upd_ne n2]; exact e8 _ _ (keep _ _ n1 (e36 _ _ hb))
        refine ⟨Ex.mut (eG7.trans e8) g2S, ⟨_, rfl⟩, fin _ _ (Ne.symm (nFfn i hi)) (Ne.symm (nSfn i hi)) h3n, fin _ _ (Ne.symm (nFsn i hi)) (Ne.symm (nSsn i hi)) h3s, fun j hij hj => ?_, fin _ _ (Ne.symm (nFkp i hi)) (Ne.symm (nSkp i hi)) h3k, fin _ _ (Ne.symm (nFtd i hi)) (Ne.symm (nStd i hi)) h3t⟩
        obtain ⟨q1, q2⟩ := h3F j (by omega) hj
        exact ⟨fin _ _ (nFF j i hj hi (by omega)) (Ne.symm (nSF i j hi hj)) q1, fin _ _ (nSF j i hj hi) (nSS j i hj hi (by omega)) q2⟩
      · rintro σ3 H3 eG3 ⟨⟨v12, rfl⟩, h3n, h3s, h3F, h3k, h3t⟩
        have e03 : Ex H4 H3 := eG.trans eG3
        refine q_when (b := false) (et_is (et_not (et_B (ev_sameL (K := K) (U := T) (el_wmeth (ev_var rfl) (hW4.mono e03) (fun _ _ _ _ => rfl) (ev_op (ev_op (ev_var rfl) (ev_var rfl) (rv_catS (by omega))) (ev_var rfl) (rv_catS (by rw [len_app]; omega))) (sl_htbt (hW4.mono e03) hl g)) (fun _ _ => ev_var rfl) (ex_l e03 ha4) hln))) rfl) (fun z => Bool.noConfusion z) fun _ H5 e5 => ?_
        have e05 := e03.trans e5
        refine q_when (b := false) (et_is (et_not (et_B (ev_sameL (K := K) (U := backT T) (el_wmeth (ev_var rfl) (hW4.mono e05) (fun _ _ _ _ => rfl) (ev_op (ev_op (ev_var rfl) (ev_var rfl) (rv_catS (by omega))) (ev_var rfl) (rv_catS (by rw [len_app]; omega))) (sl_hbtb (hW4.mono e05) hl g)) (fun _ _ => ev_var rfl) (sq_of (e05 _ _ hb4)) (by omega)))) rfl) (fun z => Bool.noConfusion z) fun _ H6 e6 => ?_
        have e06 := e05.trans e6
        refine q_when (b := false) (et_is (et_not (et_B (ev_same (K := K) (U := T) (ev_var rfl) (ev_var rfl) (sq_of ((e5.trans e6) _ _ h3k)) (ex_l e06 ha4) hln))) rfl) (fun z => Bool.noConfusion z) fun _ H7 e7 => ?_
        have e37 := (e5.trans e6).trans e7
        refine s_app (e37 _ _ h3t) (ev_var rfl) ev_c (by rw [List.length_map]; omega) fun H8 e8 => ⟨Ex.mut ((eG3.trans e37).trans e8) (fresh_back (eG'.trans ea) htd), _, _, _, _, _, _, rfl⟩
    · rintro σ' H' eH' ⟨v7, v8, v9, v10, v11, v12, rfl⟩
      refine s_ret (ev_var rfl) fun H5 e5 => ?_
      have e45 := eH'.trans e5
      rw [hdd0, hdd1] at hd4
      exact k d d0 d1 H5 (fresh_back e1 hd) (fresh_back e1 hd0) (fresh_back e1 hd1) nd0 nd1 nd01 (e04.trans e45) (e45 _ _ hd4) (e45 _ _ hd04) (e45 _ _ hd14)
end
end Z
end
/-! Z19 -/
set_option linter.all false
set_option maxRecDepth 100000
set_option maxHeartbeats 4000000
noncomputable section
namespace Z
open PySem PySem.Spec PyProof.Rows L2 PySem.Froz Evl TS GenW

/-! ### what the short chains show -/
def imgT (j : Nat) (T : List Nat) : List Nat := if j = 0 then compT (backT T) T else compT T (backT T)
def addN (acc : List (List Nat)) (U : List Nat) : List (List Nat) := if U ∈ acc then acc else acc ++ [U]
def fndS (j : Nat) (acc : List (List Nat)) (T : List Nat) : List (List Nat) := if T.getD 0 0 = 0 then addN acc (imgT j T) else acc
def fnd (n j k : Nat) : List (List Nat) := ((rises n).take k).foldl (fndS j) []
def dueT (n j : Nat) : List (List Nat) := (rises n).filter fun T => roundsB T (decide (j = 0))
def risB (T : List Nat) : Bool := decide (0 < T.length) && ((List.range T.length).all fun i => (decide (i + 1 < T.length) → decide (T.getD i 0 ≤ T.getD (i + 1) 0)) && decide (T.getD i 0 < T.length))
theorem ris_of {T : List Nat} (h : risB T = true) : Ris T := by
  unfold risB at h
  rw [Bool.and_eq_true, List.all_eq_true] at h
  refine ⟨of_decide_eq_true h.1, fun i hi => ?_, fun i hi => ?_⟩
  · have z := h.2 i (List.mem_range.mpr (by omega))
    simp only [Bool.and_eq_true, decide_eq_true_eq] at z
    exact z.1 hi
  · have z := h.2 i (List.mem_range.mpr hi)
    simp only [Bool.and_eq_true, decide_eq_true_eq] at z
    exact z.2
def goodS (n : Nat) : Bool := ((rises n).all fun T => risB T) && [0, 1].all fun j => decide ((dueT n j).length = 2 ^ (n - 1)) && decide ((fnd n j (rises n).length).length = 2 ^ (n - 1)) && (dueT n j).all fun T => decide (T ∈ fnd n j (rises n).length)
theorem short_good : ∀ n, 1 ≤ n → n ≤ 5 → goodS n = true := fun n h1 h5 => by
  match n, h1, h5 with
  | 1, _, _ => decide +kernel
  | 2, _, _ => decide +kernel
  | 3, _, _ => decide +kernel
  | 4, _, _ => decide +kernel
  | 5, _, _ => decide +kernel
structure ShortT (n : Nat) : Prop where
  ris : ∀ T ∈ rises n, Ris T
  due : ∀ j, j < 2 → (dueT n j).length = 2 ^ (n - 1)
  fnd : ∀ j, j < 2 → (fnd n j (rises n).length).length = 2 ^ (n - 1)
  mem : ∀ j, j < 2 → ∀ T ∈ dueT n j, T ∈ Z.fnd n j (rises n).length
theorem short_of {n : Nat} (h1 : 1 ≤ n) (h5 : n ≤ 5) : ShortT n := by
  have g := short_good n h1 h5
  unfold goodS at g
  rw [Bool.and_eq_true, List.all_eq_true, List.all_eq_true] at g
  obtain ⟨g1, g2⟩ := g
  have at_ : ∀ j, j < 2 → _ := fun j hj => g2 j (by
    have : j = 0 ∨ j = 1 := by omega
    rcases this with rfl | rfl <;> simp)
  refine ⟨fun T hT => ris_of (g1 T hT), fun j hj => ?_, fun j hj => ?_, fun j hj T hT => ?_⟩
  · have z := at_ j hj
    rw [Bool.and_eq_true, Bool.and_eq_true] at z
    exact of_decide_eq_true z.1.1
  · have z := at_ j hj
    rw [Bool.and_eq_true, Bool.and_eq_true] at z
    exact of_decide_eq_true z.1.2
  · have z := at_ j hj
    rw [Bool.and_eq_true, Bool.and_eq_true, List.all_eq_true] at z
    exact of_decide_eq_true (z.2 T hT)
theorem fnd_len (n j : Nat) : ∀ k, (fnd n j k).length ≤ k
  | 0 => by simp [fnd]
  | k + 1 => by
    have ih := fnd_len n j k
    rcases Nat.lt_or_ge k (rises n).length with h | h
    · unfold fnd at ih ⊢
      rw [take_next h, List.foldl_append, List.foldl_cons, List.foldl_nil]
      generalize ((rises n).take k).foldl (fndS j) [] = acc at ih
      unfold fndS addN
      split
      · split
        · omega
        · rw [List.length_append, List.length_singleton]; omega
      · omega
    · unfold fnd at ih ⊢
      rw [List.take_of_length_le (by omega)]
      rw [List.take_of_length_le h] at ih
      omega
theorem fnd_next {n j k : Nat} (h : k < (rises n).length) : fnd n j (k + 1) = fndS j (fnd n j k) ((rises n).getD k []) := by
  unfold fnd
  rw [take_next h, List.foldl_append, List.foldl_cons, List.foldl_nil]
section
variable {P : Program} {w : World} {K : PySem.W.Frag} {σ : L2.St} {H : Hp} {ta tb te : TE} {tA : TA} {D : Ends} {tz : TS} {i : Nat}
/-- a new list of lists of numbers -/
def EvW (te : TE) (σ : L2.St) (H : Hp) (W : List (List Nat)) : Prop := ∀ H1, Ex H H1 → ∀ Q : VK, RetR W H1 Q → te σ H1 Q
theorem q_asgW {W : List (List Nat)} (h : EvW te σ H W) (k : ∀ p ys H2, H p = none → Ex H H2 → H2 p = some (.lst ys) → Rows H2 ys W → tz D (σ.set i (some (.ref p))) H2) : tSeq (tAsg te (gName i)) tz D σ H := h H (Ex.refl H) _ k
theorem ew_call {sp : Sp} {vs : List V} {E : XK} {W : List (List Nat)} (h : EvA tA σ H vs) (hs : ∀ H1, Ex H H1 → ∀ Q : VK, RetR W H1 Q → ∀ E, sp vs H1 Q E) : EvW (tCall sp [] E tA) σ H W := fun H1 e Q q => h H1 e _ fun H2 e2 => by
  rw [List.append_nil]
  exact hs H2 (e.trans e2) Q (fun p ys H3 hp e3 h3 hR => q p ys H3 (fresh_back e2 hp) (e2.trans e3) h3 hR) E
theorem ew2_call {sp : Sp} {vs xs ys : List V} {E : XK} (h : EvA tA σ H vs) (hs : ∀ H1, Ex H H1 → ∀ Q : VK, Ret2 xs ys H1 Q → ∀ E, sp vs H1 Q E) : EvW2 (tCall sp [] E tA) σ H xs ys := fun H1 e Q q => h H1 e _ fun H2 e2 => by
  rw [List.append_nil]
  exact hs H2 (e.trans e2) Q (fun p r t H3 hp hr ht n1 n2 n3 e3 h3 h4 h5 => q p r t H3 (fresh_back e2 hp) (fresh_back e2 hr) (fresh_back e2 ht) n1 n2 n3 (e2.trans e3) h3 h4 h5) E
/-- list(walk_tables(n)) -/
theorem ew_walk {E : XK} {n : Nat} (h : EvA tA σ H [.int (n : Int)]) (h1 : 1 ≤ n) (h5 : n ≤ 5) : EvW (tListG (tCallG spWalk [] E tA)) σ H (rises n) := fun H1 e Q q => h H1 e _ fun H2 e2 =>
  ⟨n, rfl, h1, h5, fun ys H3 e3 hR p hp => q p ys _ (fresh_back (e2.trans e3) hp) ((e2.trans e3).trans (Ex.new hp)) upd_same (hR.mono (Ex.new hp))⟩
theorem rv_notB {a b : Bool} : RV rNotB (.bl a) (.bl b) H (.bl (!decide (a = b))) := fun H1 _ _ q => ⟨a, b, rfl, rfl, q H1 (Ex.refl H1)⟩
/-- what a test lets through of a list of lists -/
theorem rows_given {ys : List V} {W : List (List Nat)} (h : Rows H ys W) (p : List Nat → Bool) : ∀ k, k ≤ W.length → Rows H (given k (fun i => p (W.getD i [])) (fun i => ys.getD i .non)) ((W.take k).filter p)
  | 0, _ => by simpa [given] using Rows.nil
  | k + 1, hk => by
    have ih := rows_given h p k (by omega)
    have hk2 : k < W.length := by omega
    rw [take_next hk2, List.filter_append]
    obtain ⟨q, a, b⟩ := h.2 k hk2
    have e : ys.getD k .non = .ref q := by rw [List.getD_eq_getElem?_getD, a]; rfl
    cases c : p (W.getD k []) with
    | true =>
      rw [given_yes (f := fun i => p (W.getD i [])) c, List.filter_cons, if_pos c, List.filter_nil, e]
      exact ih.snoc b
    | false =>
      rw [given_no (f := fun i => p (W.getD i [])) c, List.filter_cons, if_neg (by rw [c]; decide), List.filter_nil, List.append_nil]
      exact ih
end
end Z
end
/-! Z20 -/
set_option linter.all false
set_option maxRecDepth 100000
set_option maxHeartbeats 4000000
noncomputable section
namespace Z
open PySem PySem.Spec PyProof.Rows L2 PySem.Froz Evl TS GenW

section
variable {P : Program} {w : World} {K : PySem.W.Frag} {mg : PySem.Str → Option Value} {base : Heap} {f f1 f2 f3 f4 f5 f6 : Addr} {fd fd1 fd2 fd3 fd4 fd5 fd6 : FuncData}
theorem ev_sameR {σ : L2.St} {H : Hp} {ta tb : TE} {a : Addr} {U : List Nat} {E : XK} (ha : Ev ta σ H (.ref a)) (hA : SqL K H a (nv U)) (hb : EvL tb σ H (nv U)) (hz : U.length ≤ 1000) : Ev (tCall (spSame K) [] E (tCons ta (tCons tb tNil))) σ H (.bl true) := fun H1 e Q q =>
  ha H1 e _ fun H2 e2 => hb H2 (e.trans e2) _ fun p H3 hp e3 h3 => ⟨a, p, U, rfl, ex_l ((e.trans e2).trans e3) hA, sq_of h3, hz, fun H4 e4 => q H4 ((e2.trans e3).trans e4)⟩
theorem sv_ris2 {a : Addr} {U : List Nat} {H : Hp} (h : SqL K H a (nv U)) (hz : U.length ≤ 1000) (R : Ris U) : SpV (spRis K) [.ref a] H (.bl true) := fun H1 e Q q E => ⟨a, U, rfl, ex_l e h, hz, R, fun H2 e2 => q H2 e2⟩
/-! ### _law_short -/
abbrev s_short : Stmt := top 65
abbrev nSh : List PySem.Str := ["_law_size_here", "_law_dial", "_law_risings_here", "_law_walked", "_law_table", "_law_found", "_law_k", "_law_both", "_law_side", "_law_many", "_law_due"]
def spShort : Sp := fun vs H Q _ => ∃ (n : Nat) (l : PySem.Str), vs = [.int (n : Int), .str l] ∧ 1 ≤ n ∧ n ≤ 5 ∧ One l ∧ RetV (.bl true) H Q
theorem scSh : FnScope nSh ["_law_size_here", "_law_dial"] (defScope s_short) := ⟨rfl, rfl, rfl, by decide +kernel, rfl, by decide +kernel, by decide +kernel⟩
theorem ok_short (W : Wd mg) (D : Dat K mg "_law_short" s_short ["_law_size_here", "_law_dial"] f fd) (D1 : Dat K mg "_law_risings" s_ris ["_law_size_here"] f1 fd1) (G1 : FnOk P w K mg base (L2.CX P w) 1 f1 fd1 ["_law_size_here"] spRs)
    (D2 : Dat K mg "walk_tables" s_walk ["steps"] f2 fd2) (G2 : GFn P w K mg base 2 f2 fd2 ["steps"] spWalk) (G2' : GF1 P w K mg base 2 f2 fd2 ["steps"] spWalk8)
    (D3 : Dat K mg "_law_same_steps" s_same ["_law_actual", "_law_due"] f3 fd3) (G3 : FnOk P w K mg base (L2.CX P w) 2 f3 fd3 ["_law_actual", "_law_due"] (spSame K))
    (D4 : Dat K mg "rising" s_rising ["table"] f4 fd4) (G4 : FnOk P w K mg base (L2.CX P w) 1 f4 fd4 ["table"] (spRis K))
    (D5 : Dat K mg "_law_pair" s_pair ["_law_table", "_law_dial"] f5 fd5) (G5 : FnOk P w K mg base (L2.CX P w) 6 f5 fd5 ["_law_table", "_law_dial"] (spPair K))
    (D6 : Dat K mg "_law_rounds" s_rounds ["_law_table", "_law_upward_here"] f6 fd6) (G6 : FnOk P w K mg base (L2.CX P w) 1 f6 fd6 ["_law_table", "_law_upward_here"] (spRnd K)) :
    FnOk P w K mg base (L2.CX P w) 7 f fd ["_law_size_here", "_law_dial"] spShort := by
  refine D.F.okX scSh (fun vs H Q E h => ?_) (fun cdv A outer s H vs Q E hr h => ?_)
  · obtain ⟨n, l, rfl, _⟩ := h
    rfl
  · obtain ⟨n, l, rfl, n1, n5, hl, k⟩ := h
    have hu := hr.un
    have hu1 : (A.deeper (envOfC "_law_short" (defScope s_short) s.heap.objs.size f cdv)).units + 65 < cLine := by omega
    have hr1 : Room 1 _ := hr.mono (by decide)
    have hr2 : Room 2 _ := hr.mono (by decide)
    refine ⟨_, pss_cons (ps_set (i := 2) scSh.nd rfl (Or.inl rfl) (pe_call G1 hr1 rfl D1.g D1.k D1.b .nil pas0 (pa_cons (pv 0) pa_nil)))
      (pss_cons (ps_set (i := 3) scSh.nd rfl (Or.inl rfl) (pe_listG (pgen_call (E := E0) G2 hr2 rfl D2.g D2.k D2.b .nil (pa_cons (pv 0) pa_nil)) (pas0 (X := cxOf (L2.CX P w) P w K mg base nSh "_law_short" (defScope s_short) f cdv A outer s H E)) (fun _ _ _ z => z.elim) (hr.mono (by decide)) rfl W.list PyProof.Rows.boot_list))
      (pss_cons (ps_if (pt_cmpR op_ne (pe_callB call_len_seq (by rfl) W.len PySem.boot_len (pa_cons (pv 3) pa_nil)) (pe_callB call_len_seq (by rfl) W.len PySem.boot_len (pa_cons (pv 2) pa_nil)) (nomark _)) pss_no pss_nil)
      (pss_cons (ps_for1 (passes_of rfl) (pfirst_call G2' hr2 rfl D2.g D2.k D2.b .nil (pa_cons pe_int pa_nil)) (hr.mono (by decide)) (pg_name (i := 4) scSh.nd rfl (Or.inl rfl))
        (pss_cons (ps_if (pt_not (pt_val (pe_call G3 hr2 rfl D3.g D3.k D3.b .nil pas0 (pa_cons (pv 4) (pa_cons (pe_lst (pa_cons pe_int (pa_cons pe_int (pa_cons pe_int (pa_cons pe_int (pa_cons pe_int (pa_cons pe_int (pa_cons pe_int (pa_cons pe_int pa_nil))))))))) pa_nil))))) pss_no pss_nil)
        (pss_one ps_break)))
      (pss_cons (ps_set (i := 5) scSh.nd rfl (Or.inl rfl) (pe_lst (pa_cons (pe_lst pa_nil) (pa_cons (pe_lst pa_nil) pa_nil))))
      (pss_cons (ps_for (passes_of rfl) rfl (pi_range1 rfl W.range (pa_cons (pe_callB call_len_seq (by rfl) W.len PySem.boot_len (pa_cons (pv 2) pa_nil)) pa_nil)) (pg_name (i := 6) scSh.nd rfl (Or.inl rfl))
        (pss_cons (ps_if (PW.pt (pw_or (pt_not (pt_val (pe_call G3 hr2 rfl D3.g D3.k D3.b .nil pas0 (pa_cons (pe_ix ix_list (pv 3) (pv 6) (fun _ _ => rfl)) (pa_cons (pe_ix ix_list (pv 2) (pv 6) (fun _ _ => rfl)) pa_nil))))) (pw_or1 (pt_cmpR op_notBl (pe_call G4 hr1 rfl D4.g D4.k D4.b .nil pas0 (pa_cons (pe_ix ix_list (pv 3) (pv 6) (fun _ _ => rfl)) pa_nil)) pe_bl (nomark _))))) pss_no pss_nil)
        (pss_one (ps_if (pt_cmpR op_eq (pe_ix ix_list (pe_ix ix_list (pv 2) (pv 6) (fun _ _ => rfl)) pe_int (fun _ _ => rfl)) pe_int (nomark _))
          (pss_cons (ps_set (i := 7) scSh.nd rfl (Or.inl rfl) (pe_call G5 hr rfl D5.g D5.k D5.b .nil pas0 (pa_cons (pe_ix ix_list (pv 2) (pv 6) (fun _ _ => rfl)) (pa_cons (pv 1) pa_nil))))
          (pss_cons (ps_if (pt_cmp (pc_isN (pv 7))) pss_no pss_nil)
          (pss_one (ps_for (passes_of rfl) rfl (pi_range1 rfl W.range (pa_cons pe_int pa_nil)) (pg_name (i := 8) scSh.nd rfl (Or.inr rfl))
            (pss_one (ps_if (pt_cmpR (op_notInD hu1) (pe_ix ix_list (pv 7) (pv 8) (fun _ _ => rfl)) (pe_ix ix_list (pv 5) (pv 8) (fun _ _ => rfl)) (by rfl))
              (pss_one (ps_expr (pe_bm PySem.F.plainAttrs_list PySem.F.slot_list_append PySem.F.type_list_append mt_append (pe_ix ix_list (pv 5) (pv 8) (fun _ _ => rfl)) (pa_cons (pe_ix ix_list (pv 7) (pv 8) (fun _ _ => rfl)) pa_nil)))) pss_nil)))))) pss_nil))))
      (pss_cons (ps_set (i := 9) scSh.nd rfl (Or.inl rfl) pe_int)
      (pss_cons (ps_for (passes_of rfl) rfl (pi_range1 rfl W.range (pa_cons (pe_op op_sub (pv 0) pe_int) pa_nil)) (pg_name (i := 6) scSh.nd rfl (Or.inl rfl))
        (pss_one (ps_set (i := 9) scSh.nd rfl (Or.inl rfl) (pe_op op_mul (pv 9) pe_int))))
      (pss_cons (ps_for (passes_of rfl) rfl (pi_range1 rfl W.range (pa_cons pe_int pa_nil)) (pg_name (i := 8) scSh.nd rfl (Or.inr rfl))
        (pss_cons (ps_setLc (i := 10) (own := [("_law_table", 4)]) (g := gName 4) (tt := tB (tCall (spRnd K) [] E0 (tCons (tVar 4) (tCons (tOp rEq (tVar 8) (tC (.int 0))) tNil)))) (te := tVar 4) rfl scSh.nd rfl rfl (sw_true rfl rfl rfl (by decide +kernel)) (pi_list (pv 2)) (blkOk_by (N := nSh) (sc := defScope s_short) (by decide +kernel))
          (fun _ _ _ _ _ => pg_name (i := 4) scSh.nd rfl (Or.inl rfl)) (fun _ _ _ _ _ => pts_one (pt_val (pe_call G6 hr1 rfl D6.g D6.k D6.b .nil pas0 (pa_cons (pv 4) (pa_cons (pe_cmpR op_eq (pv 8) pe_int (nomark _)) pa_nil))))) (fun _ _ _ _ _ => pv 4))
        (pss_cons (ps_if (PW.pt (pw_or (pt_cmpR op_ne (pe_callB call_len_seq (by rfl) W.len PySem.boot_len (pa_cons (pv 10) pa_nil)) (pv 9) (nomark _)) (pw_or1 (pt_cmpR op_ne (pe_callB call_len_seq (by rfl) W.len PySem.boot_len (pa_cons (pe_ix ix_list (pv 5) (pv 8) (fun _ _ => rfl)) pa_nil)) (pv 9) (nomark _))))) pss_no pss_nil)
        (pss_one (ps_for (passes_of rfl) rfl (pi_list (pv 10)) (pg_name (i := 4) scSh.nd rfl (Or.inl rfl))
          (pss_one (ps_if (pt_cmpR (op_notInD hu1) (pv 4) (pe_ix ix_list (pv 5) (pv 8) (fun _ _ => rfl)) (by rfl)) pss_no pss_nil)))))))
      (pss_one (ps_ret pe_bl)))))))))), ?_⟩
    have WN := walk_of n1 n5
    have SN := short_of n1 n5
    refine q_asgW (ew_call (ea_cons (ev_var rfl) ea_nil) fun H1 e Q q E => ⟨n, rfl, n1, n5, q⟩) fun rp ry H1 hrp e1 h1 R1 => ?_
    refine q_asgW (ew_walk (ea_cons (ev_var rfl) ea_nil) n1 n5) fun wp wy H2 hwp e2 h2 R2 => ?_
    have h12 := e2 _ _ h1
    have R12 := R1.mono e2
    refine q_when (b := false) (et_is (ev_neI (ev_is (ev_len (K := K) (ev_var rfl) (sq_of h2)) (by rw [R2.1])) (ev_is (ev_len (K := K) (ev_var rfl) (sq_of h12)) (by rw [R12.1]))) (by simp)) (fun z => Bool.noConfusion z) fun _ H3 e3 => ?_
    have h33 := (e2.trans e3) _ _ h1
    have h3w := e3 _ _ h2
    have R13 := R12.mono e3
    have R23 := R2.mono e3
    refine ⟨rfl, fun p8 H4 e4 h8 => ?_⟩
    refine q_when (b := false) (et_is (et_not (et_B (ev_sameR (K := K) (U := List.replicate 8 0) (ev_var rfl) (sq_of h8) (el_lst (vs := nv (List.replicate 8 0)) (ea_cons ev_c (ea_cons ev_c (ea_cons ev_c (ea_cons ev_c (ea_cons ev_c (ea_cons ev_c (ea_cons ev_c (ea_cons ev_c ea_nil)))))))) (by decide)) (by decide)))) rfl) (fun z => Bool.noConfusion z) fun _ H5 e5 => ?_
    have e35 := e4.trans e5
    have hr5 := e35 _ _ h33
    have hw5 := e35 _ _ h3w
    have R15 := R13.mono e35
    have R25 := R23.mono e35
    have e05 : Ex H H5 := ((e1.trans e2).trans e3).trans e35
    dsimp only [tBreak]
    refine q_asg2 (ew_two (el_lst (vs := []) ea_nil (by decide)) (el_lst (vs := []) ea_nil (by decide))) fun fn F0 F1 H6 hfn hF0 hF1 nf0 nf1 nf01 e6 h6n h60 h61 => ?_
    have two : ∀ {p : Nat → Prop}, p 0 → p 1 → ∀ i, i < 2 → p i := fun {p} h0 h1 i hi => match i, hi with
      | 0, _ => h0
      | 1, _ => h1
    have at2 : ∀ (F : Nat → Addr) (i : Nat), i < 2 → atI [V.ref (F 0), .ref (F 1)] (i : Int) = some (.ref (F i)) := fun F => two rfl rfl
    obtain ⟨F, hF0e, hF1e⟩ : ∃ F : Nat → Addr, F 0 = F0 ∧ F 1 = F1 := ⟨fun i => if i = 0 then F0 else F1, rfl, rfl⟩
    subst hF0e hF1e
    have hF5 : ∀ i, i < 2 → H5 (F i) = none := two hF0 hF1
    have hF6 : ∀ i, i < 2 → H6 (F i) = some (.lst []) := two h60 h61
    have nFfn : ∀ i, i < 2 → F i ≠ fn := two (Ne.symm nf0) (Ne.symm nf1)
    have nFF : ∀ i j, i < 2 → j < 2 → i ≠ j → F i ≠ F j := fun i j hi hj hij => by
      revert j
      exact two (p := fun i => ∀ j, j < 2 → i ≠ j → F i ≠ F j) (two (fun z => absurd rfl z) fun _ => nf01) (two (fun _ => Ne.symm nf01) fun z => absurd rfl z) i hi
    have sml := WN.small
    refine q_forN (H := H5) (ei_rng1 (n := ((rises n).length : Int)) (ea_cons (ev_is (ev_len (K := K) (ev_var rfl) (sq_of hr5)) (by rw [R15.1])) ea_nil) (by omega) (by omega)) e6 (fun k σ' H' => (∃ v4 v6 v7 v8 : Option V, σ' = [some (.int (n : Int)), some (.str l), some (.ref rp), some (.ref wp), v4, some (.ref fn), v6, v7, v8, none, none]) ∧ H' fn = some (.lst [.ref (F 0), .ref (F 1)]) ∧ ∀ j, j < 2 → ∃ zs, H' (F j) = some (.lst zs) ∧ (∀ m, m < 2 → V.ref (F m) ∉ zs) ∧ Rows H' zs (fnd n j k))
      (fun H7 e7 => ⟨⟨_, none, none, none, rfl⟩, e7 _ _ h6n, fun j hj => ⟨[], e7 _ _ (hF6 j hj), fun _ _ => List.not_mem_nil, by simpa [fnd] using Rows.nil⟩⟩) ?_ ?_
    · rintro G k y σ' H' eG nG eG' hy ⟨⟨v4, v6, v7, v8, rfl⟩, hn, hFs⟩
      obtain ⟨hk', rfl⟩ := nums_at hy
      rw [Int.toNat_natCast] at hk'
      rw [Int.zero_add]
      have e5' := eG.trans eG'
      have gF : ∀ i, i < 2 → G (F i) = none := fun i hi => nG _ (hF5 i hi) (by rw [hF6 i hi]; exact fun z => nomatch z)
      obtain ⟨r, hr1', hr2'⟩ := R15.2 k hk'
      obtain ⟨q, hq1, hq2⟩ := R25.2 k hk'
      have hTm : (rises n).getD k [] ∈ rises n := getD_mem hk'
      have hTl := WN.len k hk'
      have fn1 : ∀ j, fnd n j (k + 1) = fndS j (fnd n j k) ((rises n).getD k []) := fun j => fnd_next hk'
      have hfl : ∀ j, (fnd n j k).length ≤ k := fun j => fnd_len n j k
      generalize (rises n).getD k [] = T at hr2' hq2 hTm hTl fn1
      have hTr := SN.ris T hTm
      have ar : atI ry (k : Int) = some (.ref r) := by rw [atI_nat]; exact hr1'
      have aw : atI wy (k : Int) = some (.ref q) := by rw [atI_nat]; exact hq1
      refine q_when (b := false) (et_is (et_or (a := false) (b := false) (et_is (et_not (et_B (ev_same (K := K) (U := T) (ev_op (ev_var rfl) (ev_var rfl) (rv_ixL (sq_of (e5' _ _ hw5)) aw)) (ev_op (ev_var rfl) (ev_var rfl) (rv_ixL (sq_of (e5' _ _ hr5)) ar)) (sq_of (e5' _ _ hq2)) (sq_of (e5' _ _ hr2')) (by omega)))) rfl)
        fun _ => et_is (et_test (ev_op (ev_call (z := .bl true) (ea_cons (ev_op (ev_var rfl) (ev_var rfl) (rv_ixL (sq_of (e5' _ _ hw5)) aw)) ea_nil) (sv_ris2 (K := K) (sq_of (e5' _ _ hq2)) (by omega) hTr)) ev_c rv_notB)) rfl) rfl) (fun z => Bool.noConfusion z) fun _ Ha ea => ?_
      have e5a := e5'.trans ea
      refine s_when (b := decide (T.getD 0 0 = 0)) (et_is (ev_eqI (ev_atN (ns := T) (k := 0) (ev_op (ev_var rfl) (ev_var rfl) (rv_ixL (sq_of (e5a _ _ hr5)) ar)) ev_c (sq_of (e5a _ _ hr2')) hTr.pos) ev_c) (decide_eq_decide.mpr (by omega))) (fun hb Hb eb => ?_) fun hb Hb eb => ?_
      · have g : Grd T := ⟨hTr, of_decide_eq_true hb, by omega⟩
        have e5b := e5a.trans eb
        refine q_asg2 (ew2_call (ea_cons (ev_op (ev_var rfl) (ev_var rfl) (rv_ixL (sq_of (e5b _ _ hr5)) ar)) (ea_cons (ev_var rfl) ea_nil)) fun H1 e Q q E => ⟨r, l, T, rfl, sq_of ((e5b.trans e) _ _ hr2'), g, hl, q⟩) fun bp b0 b1 Hc hbp hb0 hb1 nb0 nb1 nb01 ec hcp hc0 hc1 => ?_
        refine q_when (b := false) (et_is (et_B (ev_isN (ev_var rfl))) (decide_eq_false fun h => nomatch h)) (fun z => Bool.noConfusion z) fun _ Hd ed => ?_
        have eHd : Ex H' Hd := ((ea.trans eb).trans ec).trans ed
        have eHc : Ex H' Hb := ea.trans eb
        obtain ⟨B, hB0e, hB1e⟩ : ∃ B : Nat → Addr, B 0 = b0 ∧ B 1 = b1 := ⟨fun i => if i = 0 then b0 else b1, rfl, rfl⟩
        subst hB0e hB1e
        have hBb : ∀ i, i < 2 → Hb (B i) = none := two hb0 hb1
        have hBd : ∀ i, i < 2 → Hd (B i) = some (.lst (nv (imgT i T))) := two (ed _ _ hc0) (ed _ _ hc1)
        have nBF : ∀ i j, i < 2 → j < 2 → B i ≠ F j := fun i j hi hj => by
          obtain ⟨zs, hz, _⟩ := hFs j hj
          exact ne_new (eHc _ _ hz) (hBb i hi)
        have nbpF : ∀ j, j < 2 → bp ≠ F j := fun j hj => by
          obtain ⟨zs, hz, _⟩ := hFs j hj
          exact ne_new (eHc _ _ hz) hbp
        refine s_forN (H := G) (ei_rng1 (n := 2) (ea_cons ev_c ea_nil) (by decide) (by decide)) (eG'.trans eHd) (fun i σ3 H3 => (∃ v8 : Option V, σ3 = [some (.int (n : Int)), some (.str l), some (.ref rp), some (.ref wp), v4, some (.ref fn), some (.int (k : Int)), some (.ref bp), v8, none, none]) ∧ H3 fn = some (.lst [.ref (F 0), .ref (F 1)]) ∧ H3 bp = some (.lst [.ref (B 0), .ref (B 1)]) ∧ (∀ j, j < 2 → H3 (B j) = some (.lst (nv (imgT j T)))) ∧ ∀ j, j < 2 → ∃ zs, H3 (F j) = some (.lst zs) ∧ (∀ m, m < 2 → V.ref (F m) ∉ zs) ∧ Rows H3 zs (if j < i then addN (fnd n j k) (imgT j T) else fnd n j k))
          (fun H7 e7 => ⟨⟨_, rfl⟩, (eHd.trans e7) _ _ hn, (ed.trans e7) _ _ hcp, fun j hj => e7 _ _ (hBd j hj), fun j hj => by
            obtain ⟨zs, z1, z2, z3⟩ := hFs j hj
            exact ⟨zs, (eHd.trans e7) _ _ z1, z2, by rw [if_neg (Nat.not_lt_zero j)]; exact z3.mono (eHd.trans e7)⟩⟩) ?_ ?_
        · rintro G2 i x σ3 H3 eG2 nG2 eG2' hx ⟨⟨v8, rfl⟩, h3n, h3p, h3B, h3F⟩
          obtain ⟨hi', rfl⟩ := nums_at hx
          have hi : i < 2 := hi'
          rw [Int.zero_add]
          obtain ⟨zs, z1, z2, z3⟩ := h3F i hi
          rw [if_neg (Nat.lt_irrefl i)] at z3
          have g2F : G2 (F i) = none := nG2 _ (gF i hi) (by
            obtain ⟨zs, q1, _⟩ := hFs i hi
            rw [eHd _ _ q1]; exact fun z => nomatch z)
          have zl := z3.1
          have zk := hfl i
          refine s_when (b := !decide (imgT i T ∈ fnd n i k)) (et_test (ev_op (ev_op (ev_var rfl) (ev_var rfl) (rv_ixL (K := K) (sq_of h3p) (at2 B i hi))) (ev_op (ev_var rfl) (ev_var rfl) (rv_ixL (sq_of h3n) (at2 F i hi))) (rv_notInD (dp_nums (sq_of (h3B i hi))) (sq_of z1) z3))) (fun hc H7 e7 => ?_) fun hc H7 e7 => ?_
          · have nin : ¬ imgT i T ∈ fnd n i k := by simpa using hc
            refine s_app (l := F i) (e7 _ _ z1) (ev_op (ev_var rfl) (ev_var rfl) (rv_ixL (sq_of (e7 _ _ h3n)) (at2 F i hi))) (ev_op (ev_var rfl) (ev_var rfl) (rv_ixL (sq_of (e7 _ _ h3p)) (at2 B i hi))) (by omega) fun H8 e8 => ?_
            have e78 := e7.trans e8
            have fin : ∀ b o, b ≠ F i → H3 b = some o → (upd H8 (F i) (.lst (zs ++ [.ref (B i)]))) b = some o := fun b o n1 hb => by
              rw [upd_ne n1]; exact e78 _ _ hb
            refine ⟨Ex.mut (eG2'.trans e78) g2F, ⟨_, rfl⟩, fin _ _ (Ne.symm (nFfn i hi)) h3n, fin _ _ (nbpF i hi) h3p, fun j hj => fin _ _ (nBF j i hj hi) (h3B j hj), fun j hj => ?_⟩
            by_cases hji : j = i
            · subst hji
              have nm : ∀ m, m < 2 → V.ref (F m) ∉ zs ++ [.ref (B j)] := fun m hm => by
                rw [List.mem_append, List.mem_singleton]
                exact fun z => z.elim (z2 m hm) fun z => nBF j m hi hm (V.ref.inj z).symm
              refine ⟨zs ++ [.ref (B j)], upd_same, nm, ?_⟩
              rw [if_pos (Nat.lt_succ_self j)]
              unfold addN
              rw [if_neg nin]
              exact ((z3.mono e78).snoc (e78 _ _ (h3B j hj))).upd (nm j hj)
            · obtain ⟨ws, w1, w2, w3⟩ := h3F j hj
              refine ⟨ws, fin _ _ (nFF j i hj hi hji) w1, w2, ?_⟩
              have c : (if j < i + 1 then addN (fnd n j k) (imgT j T) else fnd n j k) = (if j < i then addN (fnd n j k) (imgT j T) else fnd n j k) := by
                by_cases h : j < i
                · rw [if_pos h, if_pos (by omega)]
                · rw [if_neg h, if_neg (by omega)]
              rw [c]
              exact (w3.mono e78).upd (w2 i hi)
          · have yin : imgT i T ∈ fnd n i k := by simpa using hc
            refine ⟨eG2'.trans e7, ⟨_, rfl⟩, e7 _ _ h3n, e7 _ _ h3p, fun j hj => e7 _ _ (h3B j hj), fun j hj => ?_⟩
            obtain ⟨ws, w1, w2, w3⟩ := h3F j hj
            refine ⟨ws, e7 _ _ w1, w2, ?_⟩
            by_cases hji : j = i
            · subst hji
              rw [if_neg (Nat.lt_irrefl j)] at w3
              rw [if_pos (Nat.lt_succ_self j)]
              unfold addN
              rw [if_pos yin]
              exact w3.mono e7
            · have c : (if j < i + 1 then addN (fnd n j k) (imgT j T) else fnd n j k) = (if j < i then addN (fnd n j k) (imgT j T) else fnd n j k) := by
                by_cases h : j < i
                · rw [if_pos h, if_pos (by omega)]
                · rw [if_neg h, if_neg (by omega)]
              rw [c]
              exact w3.mono e7
        · rintro σ3 H3 eG3 ⟨⟨v8, rfl⟩, h3n, h3p, h3B, h3F⟩
          refine ⟨eG3, ⟨_, _, _, _, rfl⟩, h3n, fun j hj => ?_⟩
          obtain ⟨zs, z1, z2, z3⟩ := h3F j hj
          have hj2 : j < (nums 0 (2 : Int).toNat).length := hj
          rw [if_pos hj2] at z3
          refine ⟨zs, z1, z2, ?_⟩
          rw [fn1 j]
          unfold fndS
          rw [if_pos g.zero]
          exact z3
      · have n0 : ¬ T.getD 0 0 = 0 := of_decide_eq_false hb
        refine ⟨(eG'.trans ea).trans eb, ⟨_, _, _, _, rfl⟩, (ea.trans eb) _ _ hn, fun j hj => ?_⟩
        obtain ⟨zs, z1, z2, z3⟩ := hFs j hj
        refine ⟨zs, (ea.trans eb) _ _ z1, z2, ?_⟩
        rw [fn1 j]
        unfold fndS
        rw [if_neg n0]
        exact z3.mono (ea.trans eb)
    · rintro σ' H' eH' ⟨⟨v4, v6, v7, v8, rfl⟩, hn, hFs⟩
      rw [nums_len, Int.toNat_natCast] at hFs
      refine q_asg (v := .int ((2 ^ 0 : Nat) : Int)) ev_c fun H7 e7 => ?_
      refine q_forI (H := H7) (ei_rng1 (n := ((n - 1 : Nat) : Int)) (ea_cons (ev_is (ev_op (ev_var rfl) ev_c rv_I0) (by congr 1; omega)) ea_nil) (by omega) (by omega)) (Ex.refl H7) (fun _ i σ3 H3 => (∃ v6 : Option V, σ3 = [some (.int (n : Int)), some (.str l), some (.ref rp), some (.ref wp), v4, some (.ref fn), v6, v7, v8, some (.int ((2 ^ i : Nat) : Int)), none]) ∧ Ex H7 H3) (fun _ H8 _ e8 _ => ⟨⟨_, rfl⟩, e8⟩) ?_ ?_
      · rintro G i x σ3 H3 eG eG' hx ⟨⟨v6, rfl⟩, e3'⟩
        obtain ⟨hi, rfl⟩ := nums_at hx
        refine s_asg (ev_is (ev_op (ev_var rfl) ev_c (rv_I (.inr ⟨by decide, by decide⟩))) (w := .int ((2 ^ (i + 1) : Nat) : Int)) (by rw [Nat.pow_succ, Int.natCast_mul]; rfl)) fun H8 e8 => ⟨eG'.trans e8, ⟨_, rfl⟩, e3'.trans e8⟩
      · rintro G σ3 H8 eG eG' ⟨⟨v6, rfl⟩, e78⟩
        rw [nums_len, Int.toNat_natCast]
        have e8' : Ex H5 H8 := (eH'.trans e7).trans e78
        have hr8 := e8' _ _ hr5
        have R18 := R15.mono e8'
        have hn8 := (e7.trans e78) _ _ hn
        have hF8 : ∀ j, j < 2 → ∃ zs, H8 (F j) = some (.lst zs) ∧ Rows H8 zs (fnd n j (rises n).length) := fun j hj => by
          obtain ⟨zs, z1, _, z3⟩ := hFs j hj
          exact ⟨zs, (e7.trans e78) _ _ z1, z3.mono (e7.trans e78)⟩
        refine q_forI (H := H8) (ei_rng1 (n := 2) (ea_cons ev_c ea_nil) (by decide) (by decide)) (Ex.refl H8) (fun _ _ σ3 H3 => (∃ v4 v8 v10 : Option V, σ3 = [some (.int (n : Int)), some (.str l), some (.ref rp), some (.ref wp), v4, some (.ref fn), v6, v7, v8, some (.int ((2 ^ (n - 1) : Nat) : Int)), v10]) ∧ Ex H8 H3) (fun _ H9 _ e9 _ => ⟨⟨_, _, _, rfl⟩, e9⟩) ?_ ?_
        · rintro G2 i x σ3 H9 eG2 eG2' hx ⟨⟨v4, v8, v10, rfl⟩, e9⟩
          obtain ⟨hi', rfl⟩ := nums_at hx
          have hi : i < 2 := hi'
          rw [Int.zero_add]
          obtain ⟨zs, z1, z3⟩ := hF8 i hi
          have hr9 := e9 _ _ hr8
          have R19 := R18.mono e9
          have rl := R19.1
          refine q_asgL (xs := given (rises n).length (fun m => roundsB ((rises n).getD m []) (decide (i = 0))) (fun m => ry.getD m .non)) ?_ fun dp Ha hdp ea hda => ?_
          · rw [← rl]
            refine (ek_kcF (P := P) (w := w) .lst (fun m => roundsB ((rises n).getD m []) (decide (i = 0))) (fun m => ry.getD m .non) (ei_list (K := K) (ev_var rfl) (sq_of hr9)) (by omega) (fun _ => trivial) (fun _ => rfl) (fun m x Hb eb hx => ?_) fun m x Hb eb hx _ => ?_).lst
            · have hm : m < (rises n).length := by rw [← rl]; exact (List.getElem?_eq_some_iff.mp hx).1
              obtain ⟨r, a1, a2⟩ := R19.2 m hm
              rw [a1] at hx
              cases hx
              have hTm : (rises n).getD m [] ∈ rises n := getD_mem hm
              have hTl := WN.len m hm
              exact et_B (ev_call (ea_cons (ev_var rfl) (ea_cons (ev_is (ev_op (ev_var rfl) ev_c (rv_eq rfl)) (w := .bl (decide (i = 0))) (by rw [int_eq]; congr 1; exact decide_eq_decide.mpr (by omega))) ea_nil)) (sv_rnd (K := K) (sq_of (eb _ _ a2)) (SN.ris _ hTm).tb (by omega)))
            · have e : ry.getD m .non = x := by rw [List.getD_eq_getElem?_getD, hx]; rfl
              rw [e]
              exact ev_var rfl
          · have Rd : Rows Ha (given (rises n).length (fun m => roundsB ((rises n).getD m []) (decide (i = 0))) (fun m => ry.getD m .non)) (dueT n i) := by
              have z := rows_given (R19.mono ea) (fun T => roundsB T (decide (i = 0))) (rises n).length (Nat.le_refl _)
              rw [List.take_length] at z
              exact z
            generalize given (rises n).length (fun m => roundsB ((rises n).getD m []) (decide (i = 0))) (fun m => ry.getD m .non) = dy at hda Rd
            have e8a := e9.trans ea
            have dl := Rd.1
            have zl := z3.1
            rw [SN.due i hi] at dl
            rw [SN.fnd i hi] at zl
            refine q_when (b := false) (et_is (et_or (a := false) (b := false) (et_is (ev_neI (ev_is (ev_len (K := K) (ev_var rfl) (sq_of hda)) (by rw [dl])) (ev_var rfl)) (by simp)) fun _ => et_is (ev_neI (ev_is (ev_len (K := K) (ev_op (ev_var rfl) (ev_var rfl) (rv_ixL (sq_of (e8a _ _ hn8)) (at2 F i hi))) (sq_of (e8a _ _ z1))) (by rw [zl])) (ev_var rfl)) (by simp)) rfl) (fun z => Bool.noConfusion z) fun _ Hb eb => ?_
            have e8b := e8a.trans eb
            refine s_forI (H := Hb) (ei_list (K := K) (ev_var rfl) (sq_of (eb _ _ hda))) (Ex.refl Hb) (fun _ _ σ4 H4 => (∃ v4 : Option V, σ4 = [some (.int (n : Int)), some (.str l), some (.ref rp), some (.ref wp), v4, some (.ref fn), v6, v7, some (.int (i : Int)), some (.int ((2 ^ (n - 1) : Nat) : Int)), some (.ref dp)]) ∧ Ex Hb H4) (fun _ Hc _ ec _ => ⟨⟨_, rfl⟩, ec⟩) ?_ ?_
            · rintro G3 m y σ4 Hc eG3 eG3' hy ⟨⟨v4, rfl⟩, ec⟩
              have hm : m < (dueT n i).length := by rw [← Rd.1]; exact (List.getElem?_eq_some_iff.mp hy).1
              obtain ⟨r, a1, a2⟩ := Rd.2 m hm
              rw [a1] at hy
              cases hy
              have mem := SN.mem i hi _ (getD_mem (d := []) hm)
              refine s_when (b := false) (et_is (et_test (ev_op (ev_var rfl) (ev_op (ev_var rfl) (ev_var rfl) (rv_ixL (K := K) (sq_of ((e8b.trans ec) _ _ hn8)) (at2 F i hi))) (rv_notInD (dp_nums (sq_of ((eb.trans ec) _ _ a2))) (sq_of ((e8b.trans ec) _ _ z1)) (z3.mono (e8b.trans ec))))) (by rw [decide_eq_true mem]; rfl)) (fun z => Bool.noConfusion z) fun _ Hd ed => ⟨eG3'.trans ed, ⟨_, rfl⟩, ec.trans ed⟩
            · rintro G3 σ4 Hc eG3 eG3' ⟨⟨v4, rfl⟩, ec⟩
              exact ⟨((eG2'.trans ea).trans eb).trans ec, ⟨_, _, _, rfl⟩, e8b.trans ec⟩
        · rintro G2 σ3 H9 eG2 eG2' ⟨⟨v4, v8, v10, rfl⟩, e9⟩
          exact s_ret ev_c fun Ha ea => k Ha (((e05.trans e8').trans e9).trans ea)
end
end Z
end
/-! Z21 -/
set_option linter.all false
set_option maxRecDepth 100000
set_option maxHeartbeats 4000000
noncomputable section
namespace Z
open PySem PySem.Spec PyProof.Rows L2 PySem.Froz Evl TS GenW

/-! ### the law's own steps -/
theorem at_in {α : Type} {xs : List α} {r : Int} (h0 : 0 ≤ r) (h1 : r < xs.length) : ∃ c, c ∈ xs ∧ atI xs r = some c := by
  obtain ⟨k, rfl⟩ : ∃ k : Nat, r = (k : Int) := ⟨r.toNat, by omega⟩
  have hk : k < xs.length := by omega
  exact ⟨xs[k], List.getElem_mem _, by rw [atI_nat]; simp [hk]⟩
theorem Src.skip {H : Hp} {a b : Addr} {n : Nat} {o : HO} (h : Src H a n) (ne : b ≠ a) : Src (upd H b o) a n := by
  obtain ⟨u, v, h1, h2⟩ := h
  exact ⟨u, v, by rw [upd_ne (Ne.symm ne)]; exact h1, h2⟩
theorem exb_new {H H' : Hp} {a b : Addr} {o : HO} (h : ExB a H H') (nb : H b = none) : ExB a H (upd H' b o) := fun c u n z => by
  rw [upd_ne (fun q => by rw [q, nb] at z; cases z)]; exact h c u n z
section
variable {P : Program} {w : World} {K : PySem.W.Frag} {σ : L2.St} {G H H1 : Hp} {a : Addr} {k1 k2 i j : Nat} {te ti : TE} {tt : TT} {D : Ends} {tz : TS} {wi : TI} {xs : List V} {vs : List Nat}
theorem ed_pick {s : PySem.Str} {m : Int} {k : Nat} (h : Ev te σ G (.str s)) (hi : EvD ti σ G a k (Rdraw m)) (hm : m ≤ s.cps.toList.length) (h1 : 1 ≤ s.cps.toList.length) (hz : s.length ≤ 1000) :
    EvD (tOp rIxS te ti) σ G a (0 + k) (fun v => ∃ c, c ∈ s.cps.toList ∧ v = .str ⟨#[c]⟩) := ed_op (ed_of h) (fun _ _ => hi) fun x y rx ⟨r, ry, r0, r1⟩ => by
  subst rx ry
  obtain ⟨c, hc, e⟩ := at_in (xs := s.cps.toList) (r := r) r0 (by omega)
  exact ⟨_, ⟨c, hc, rfl⟩, rv_ixS (by omega) e⟩
theorem src_go {ns : List Int} {b : Addr} {k : Nat} {Q : VK} (hS : SqL K H b (ns.map V.int)) (hz : ns.length ≤ 63) (hs : σ[i]? = some (some (.ref b))) (q : ∀ p H2, H p = none → Ex H H2 → Src H2 p 0 → Q (.ref p) H2) :
    tCall (spSource K) [] E0 (tCons (tVar i) (tCons (tC (.int k)) tNil)) σ H Q :=
  ea_cons (ev_var hs) (ea_cons ev_c ea_nil) H (Ex.refl H) _ fun H2 e2 => by
    rw [List.append_nil]
    exact ⟨b, k, ns, rfl, ex_l e2 hS, hz, fun p H3 hp e3 s3 => q p H3 (fresh_back e2 hp) (e2.trans e3) s3⟩
/-- what is not so of short dials -/
theorem etd_short {l : PySem.Str} {E : XK} {k : Nat} (h : EvD te σ G a k fun v => ∃ n : Nat, v = .int (n : Int) ∧ 1 ≤ n ∧ n ≤ 5) (hj : σ[j]? = some (some (.str l))) (hl : One l) : EvTD (tNot (tB (tCall spShort [] E (tCons te (tCons (tVar j) tNil))))) σ G a k (fun b => b = false) := fun n H1 e s hn Q q =>
  h n H1 e s hn _ fun v H2 ⟨m, hv, m1, m5⟩ e2 b2 s2 => by
    subst hv
    exact ⟨.str l, hj, ⟨m, l, rfl, m1, m5, hl, fun H3 e3 => ⟨true, rfl, q false H3 rfl (e2.trans e3) (b2.trans (.of e3)) (s2.mono e3)⟩⟩⟩
theorem ed_int {k : Nat} {R : V → Prop} (h : EvD te σ G a k R) (hR : ∀ v, R v → ∃ i : Int, v = .int i) : EvD (tCB rInt (tCons te tNil)) σ G a k R := fun n H1 e s hn Q q => h n H1 e s hn _ fun v H2 r e2 b2 s2 => by
  obtain ⟨i, rfl⟩ := hR v r
  exact .inl ⟨i, rfl, q _ H2 r e2 b2 s2⟩
theorem etd_yes : EvTD tYes σ G a 0 fun b => b = true := fun n H1 e s hn Q q => q true H1 rfl e (.of (Ex.refl H1)) s
/-- a list comprehension whose test and whose item may draw: numbers below b -/
theorem kc_draw {n b : Nat} {Rb : Bool → Prop} (full : Prop) (hf : full → ∀ c, Rb c → c = true) (h : EvI wi σ G xs) (na : G a = none) (hz : xs.length ≤ 3000) (hw : ∀ x, wipe ((wipe σ vs).set j (some x)) vs = wipe σ vs)
    (ht : ∀ (i : Nat) (x : V) G1, Ex G G1 → G1 a = none → xs[i]? = some x → EvTD tt ((wipe σ vs).set j (some x)) G1 a k1 Rb)
    (he : ∀ (i : Nat) (x : V) G1, Ex G G1 → G1 a = none → xs[i]? = some x → EvD te ((wipe σ vs).set j (some x)) G1 a k2 fun v => ∃ k : Nat, v = .int (k : Int) ∧ k < b)
    (e : Ex G H) (s : Src H a n) (hn : n + xs.length * (k1 + k2) ≤ 2 ^ 40) {Q : VK}
    (q : ∀ p (M : List Nat) H2, H p = none → Ex G H2 → ExB a H H2 → Src H2 a (n + xs.length * (k1 + k2)) → H2 p = some (.lst (nv M)) → M.length ≤ xs.length → (full → M.length = xs.length) → (∀ k ∈ M, k < b) → Q (.ref p) H2) :
    tKc P w .lst wi (gName j) tt te vs σ H Q := h H e _ fun J H1 G1 e1 eG eG1 nG g Dd hD => by
  have s1 := s.mono e1
  have sa : H a ≠ none := by obtain ⟨_, _, z, _⟩ := s; rw [z]; exact fun q => nomatch q
  have na1 : G1 a = none := nG a na sa
  have nDa : Dd ≠ a := fun z => by obtain ⟨_, _, y, _⟩ := s1; rw [z, y] at hD; cases hD
  have gD : G1 Dd = none := by cases z : G1 Dd with | none => rfl | some o => rw [eG1 _ _ z] at hD; cases hD
  have hHD : H Dd = none := fresh_back e1 hD
  refine turns (g := g) (Step := fun x H Nx => gName j x (wipe σ vs) H fun σ2 H2 => wipe σ2 vs = wipe σ vs ∧ tt σ2 H2 fun b H3 => if b = true then te σ2 H3 fun y H4 => Kd.lst.add P w Dd H4 y Nx else Nx H3) (Qd := fun H => Q (.ref Dd) H)
    (fun i H' => i ≤ xs.length ∧ ∃ M : List Nat, M.length ≤ i ∧ (full → M.length = i) ∧ (∀ k ∈ M, k < b) ∧ Ex G1 H' ∧ ExB a H H' ∧ Src H' a (n + i * (k1 + k2)) ∧ H' Dd = some (.lst (nv M))) ⟨Nat.zero_le _, [], Nat.le_refl _, fun _ => rfl, (fun k z => nomatch z), eG1.trans (Ex.new hD), exb_new (ExB.of e1) hHD, ?_, upd_same⟩ (fun i H' _ p => ?_) (fun i x H' hx p => ⟨hw x, ?_⟩) (fun H' p => ?_)
  · rw [Nat.zero_mul, Nat.add_zero]; exact s1.skip nDa
  · obtain ⟨_, M, _, _, _, p, _⟩ := p; exact p
  · obtain ⟨_, M, m1, m2, m3, pG, pB, pS, pD⟩ := p
    have hi := (List.getElem?_eq_some_iff.mp hx).1
    have hle : (i + 1) * (k1 + k2) ≤ xs.length * (k1 + k2) := Nat.mul_le_mul_right _ hi
    have hsu : (i + 1) * (k1 + k2) = i * (k1 + k2) + (k1 + k2) := Nat.succ_mul _ _
    refine ht i x G1 eG na1 hx _ H' pG pS (by omega) _ fun c H3 rc e3 b3 s3 => ?_
    cases c with
    | true =>
      rw [if_pos rfl]
      refine he i x G1 eG na1 hx _ H3 e3 s3 (by omega) _ fun y H4 ⟨k, hy, hk⟩ e4 b4 s4 => ?_
      subst hy
      have hD4 : H4 Dd = some (.lst (nv M)) := b4 _ _ nDa (b3 _ _ nDa pD)
      refine ⟨nv M, hD4, sz_lt (by rw [List.length_map]; omega), by omega, M ++ [k], by rw [List.length_append, List.length_singleton]; omega, fun f => by rw [List.length_append, List.length_singleton, m2 f], fun k' hk' => ?_, Ex.mut e4 gD, exb_new ((pB.trans b3).trans b4) hHD, ?_, ?_⟩
      · rcases List.mem_append.mp hk' with z | z
        · exact m3 _ z
        · rw [List.mem_singleton.mp z]; exact hk
      · rw [hsu]
        have z := s4.skip (o := .lst (nv M ++ [.int (k : Int)])) nDa
        rw [show n + (i * (k1 + k2) + (k1 + k2)) = n + i * (k1 + k2) + k1 + k2 by omega]
        exact z
      · rw [upd_same, nv_snoc]
    | false =>
      rw [if_neg (by decide)]
      exact ⟨by omega, M, by omega, fun f => absurd (hf f false rc) (by decide), m3, e3, pB.trans b3, s3.more (by omega), b3 _ _ nDa pD⟩
  · obtain ⟨_, M, m1, m2, m3, pG, pB, pS, pD⟩ := p
    exact q Dd M H' hHD (eG.trans pG) pB pS pD m1 m2 m3
/-- sorted numbers, drawn -/
theorem nat_of {M : List Nat} {ns : List Int} (h : ns.Perm (M.map fun (k : Nat) => (k : Int))) : ∃ U : List Nat, ns = U.map (fun (k : Nat) => (k : Int)) := by
  refine ⟨ns.map Int.toNat, ?_⟩
  rw [List.map_map]
  conv => lhs; rw [← List.map_id ns]
  refine List.map_congr_left fun x hx => ?_
  obtain ⟨k, _, rfl⟩ := List.mem_map.mp (h.subset hx)
  show (k : Int) = ((k : Int).toNat : Int)
  omega
theorem srt_ris {M U : List Nat} {n : Nat} (hp : (U.map fun (k : Nat) => (k : Int)).Perm (M.map fun (k : Nat) => (k : Int))) (hs : (U.map fun (k : Nat) => (k : Int)).Pairwise (· ≤ ·)) (hM : M.length = n) (hb : ∀ k ∈ M, k < n) (n1 : 1 ≤ n) (n60 : n ≤ 60) : U.length = n ∧ Grd (U.set 0 0) := by
  have hl : U.length = n := by have := hp.length_eq; simpa [hM] using this
  have hU : ∀ k ∈ U, k < n := fun k hk => by
    obtain ⟨m, hm, e⟩ := List.mem_map.mp (hp.subset (List.mem_map.mpr ⟨k, hk, rfl⟩))
    have : m = k := by omega
    rw [← this]; exact hb m hm
  have hle : ∀ i, i + 1 < n → U.getD i 0 ≤ U.getD (i + 1) 0 := fun i hi => by
    have z := List.pairwise_iff_getElem.mp hs i (i + 1) (by rw [List.length_map]; omega) (by rw [List.length_map]; omega) (by omega)
    rw [List.getElem_map, List.getElem_map] at z
    rw [List.getD_eq_getElem?_getD, List.getElem?_eq_getElem (by omega), List.getD_eq_getElem?_getD, List.getElem?_eq_getElem (by omega)]
    exact Int.ofNat_le.mp z
  have h0 : (U.set 0 0).getD 0 0 = 0 := by
    rw [List.getD_eq_getElem?_getD, List.getElem?_set_self (by omega)]; rfl
  have hs1 : ∀ i, 1 ≤ i → (U.set 0 0).getD i 0 = U.getD i 0 := fun i hi => by
    rw [List.getD_eq_getElem?_getD, List.getElem?_set_ne (by omega), ← List.getD_eq_getElem?_getD]
  refine ⟨hl, ⟨⟨by rw [List.length_set]; omega, fun i hi => ?_, fun i hi => ?_⟩, h0, by rw [List.length_set]; omega⟩⟩
  · rw [List.length_set] at hi
    match i with
    | 0 => rw [h0]; exact Nat.zero_le _
    | i + 1 => rw [hs1 _ (by omega), hs1 _ (by omega)]; exact hle _ (by omega)
  · rw [List.length_set] at hi ⊢
    match i with
    | 0 => rw [h0]; omega
    | i + 1 => rw [hs1 _ (by omega), hl]; exact hU _ (getD_mem hi)
/-- pair over a new list -/
theorem ew2_pairL {l : PySem.Str} {T : List Nat} {E : XK} (h : EvL te σ H (nv T)) (hj : σ[j]? = some (some (.str l))) (g : Grd T) (hl : One l) : EvW2 (tCall (spPair K) [] E (tCons te (tCons (tVar j) tNil))) σ H (nv (compT (backT T) T)) (nv (compT T (backT T))) := fun H1 e Q q =>
  h H1 e _ fun p H2 hp e2 h2 => ⟨.str l, hj, ⟨p, l, T, rfl, sq_of h2, g, hl, fun p' r t H3 hp' hr ht n1 n2 n3 e3 h3 h4 h5 => q p' r t H3 (fresh_back e2 hp') (fresh_back e2 hr) (fresh_back e2 ht) n1 n2 n3 (e2.trans e3) h3 h4 h5⟩⟩
theorem ew2_pair {b : Addr} {l : PySem.Str} {T : List Nat} {E : XK} (h : Ev te σ H (.ref b)) (hb : SqL K H b (nv T)) (hj : σ[j]? = some (some (.str l))) (g : Grd T) (hl : One l) : EvW2 (tCall (spPair K) [] E (tCons te (tCons (tVar j) tNil))) σ H (nv (compT (backT T) T)) (nv (compT T (backT T))) :=
  ew2_call (ea_cons h (ea_cons (ev_var hj) ea_nil)) fun H1 e Q q E => ⟨b, l, T, rfl, ex_l e hb, g, hl, q⟩
/-- rising over a new list: «is not True» does not hold -/
theorem et_risL {U : List Nat} {E : XK} (h : EvL te σ H (nv U)) (hz : U.length ≤ 1000) (R : Ris U) : EvT (tTest (tOp rNotB (tCall (spRis K) [] E (tCons te tNil)) (tC (.bl true)))) σ H false := et_is (et_test (ev_op (x := .bl true) (fun H1 e Q q => h H1 e _ fun p H2 hp e2 h2 => ⟨p, U, rfl, sq_of h2, hz, R, fun H3 e3 => q H3 (e2.trans e3)⟩) ev_c rv_notB)) rfl
theorem ev_neD {x y : V} {U : List Nat} {ta tb : TE} (ha : Ev ta σ H x) (hb : Ev tb σ H y) (hx : ∀ H1, Ex H H1 → Dp K H1 x (dN U)) (hy : ∀ H1, Ex H H1 → Dp K H1 y (dN U)) : EvT (tTest (tOp (rNeD K) ta tb)) σ H false := et_is (et_test (ev_op ha hb (rv_neD hx hy (shaped_nums U) (shaped_nums U)))) (by rw [eqv_nums, decide_eq_true rfl]; rfl)
end
end Z
end
/-! Z22 -/
set_option linter.all false
set_option maxRecDepth 100000
set_option maxHeartbeats 4000000
noncomputable section
namespace Z
open PySem PySem.Spec PyProof.Rows L2 PySem.Froz Evl TS GenW

/-! ### law -/
abbrev s_law : Stmt := top 69
section
variable {P : Program} {w : World} {K : PySem.W.Frag} {mg : PySem.Str → Option Value} {base : Heap} {f : Addr} {fd : FuncData}
theorem q_asgE {σ : L2.St} {H : Hp} {te : TE} {i : Nat} {D : Ends} {tz : TS} (R : V → Hp → Prop) (h : ∀ Q : VK, (∀ v H2, R v H2 → Q v H2) → te σ H Q) (k : ∀ v H2, R v H2 → tz D (σ.set i (some v)) H2) : tSeq (tAsg te (gName i)) tz D σ H := h _ k
theorem tcb_one {σ : L2.St} {H : Hp} {te : TE} {Q : VK} {r : List V → Hp → VK → Prop} (h : te σ H fun v H1 => r [v] H1 Q) : tCB r (tCons te tNil) σ H Q := h
def spLaw (K : PySem.W.Frag) : Sp := fun vs H Q _ => ∃ (a : Addr) (ns : List Int), vs = [.ref a] ∧ SqL K H a (ns.map V.int) ∧ ns.length ≤ 63 ∧ RetV (.bl true) H Q
abbrev nLaw : List PySem.Str := ["_law_script", "_law_first", "_law_dial", "_law_second", "_law_steps", "_law_marked", "_law_c", "_law_upward_here", "_law_downward_here", "_law_both", "_law_third", "_law_drawn"]
theorem scLaw : FnScope nLaw ["_law_script"] (defScope s_law) := ⟨rfl, rfl, rfl, by decide +kernel, rfl, by decide +kernel, by decide +kernel⟩
theorem ok_law (W : Wd mg) (L : Lb mg) (D : Dat K mg "law" s_law ["_law_script"] f fd) {f0 f1 f2 f3 f4 f5 f6 f7 f8 f9 : Addr} {d0 d1 d2 d3 d4 d5 d6 d7 d8 d9 : FuncData}
    (D0 : Dat K mg "_law_source" s_source ["_law_script", "_law_k"] f0 d0) (G0 : FnOk P w K mg base (L2.CX P w) 2 f0 d0 ["_law_script", "_law_k"] (spSource K))
    (D1 : Dat K mg "_law_draw" s_draw ["_law_source_here", "_law_many"] f1 d1) (G1 : FnOk P w K mg base (L2.CX P w) 1 f1 d1 ["_law_source_here", "_law_many"] spDraw)
    (D2 : Dat K mg "_law_short" s_short ["_law_size_here", "_law_dial"] f2 d2) (G2 : FnOk P w K mg base (L2.CX P w) 7 f2 d2 ["_law_size_here", "_law_dial"] spShort)
    (D3 : Dat K mg "_law_size" s_size ["_law_source_here", "_law_usual", "_law_most"] f3 d3) (G3 : FnOk P w K mg base (L2.CX P w) 2 f3 d3 ["_law_source_here", "_law_usual", "_law_most"] spSize)
    (D4 : Dat K mg "_law_upward" s_up ["_law_marked", "_law_steps"] f4 d4) (G4 : FnOk P w K mg base (L2.CX P w) 1 f4 d4 ["_law_marked", "_law_steps"] (spUp K upT))
    (D5 : Dat K mg "_law_downward" s_dn ["_law_marked", "_law_steps"] f5 d5) (G5 : FnOk P w K mg base (L2.CX P w) 1 f5 d5 ["_law_marked", "_law_steps"] (spUp K dnT))
    (D6 : Dat K mg "_law_numbers" s_nums ["_law_table"] f6 d6) (G6 : FnOk P w K mg base (L2.CX P w) 1 f6 d6 ["_law_table"] (spNm K))
    (D7 : Dat K mg "_law_pair" s_pair ["_law_table", "_law_dial"] f7 d7) (G7 : FnOk P w K mg base (L2.CX P w) 6 f7 d7 ["_law_table", "_law_dial"] (spPair K))
    (D8 : Dat K mg "rising" s_rising ["table"] f8 d8) (G8 : FnOk P w K mg base (L2.CX P w) 1 f8 d8 ["table"] (spRis K))
    (D9 : Dat K mg "_law_rounds" s_rounds ["_law_table", "_law_upward_here"] f9 d9) (G9 : FnOk P w K mg base (L2.CX P w) 1 f9 d9 ["_law_table", "_law_upward_here"] (spRnd K)) :
    FnOk P w K mg base (L2.CX P w) 8 f fd ["_law_script"] (spLaw K) := by
  refine D.F.okX scLaw (fun vs H Q E h => ?_) (fun cdv A outer s H vs Q E hr h => ?_)
  · obtain ⟨a, ns, rfl, _⟩ := h
    rfl
  · obtain ⟨a, ns, rfl, hS, hz, k⟩ := h
    have hu := hr.units
    have r1 : Room 1 _ := hr.mono (by decide)
    have r2 : Room 2 _ := hr.mono (by decide)
    have r6 : Room 6 _ := hr.mono (by decide)
    refine ⟨_, pss_cons (ps_set (i := 1) scLaw.nd rfl (Or.inl rfl) (pe_call G0 r2 rfl D0.g D0.k D0.b .nil pas0 (pa_cons (pv 0) (pa_cons pe_int pa_nil))))
      (pss_cons (ps_set (i := 2) scLaw.nd rfl (Or.inl rfl) (pe_ix ix_str pe_str (pe_call G1 r1 rfl D1.g D1.k D1.b .nil pas0 (pa_cons (pv 1) (pa_cons pe_int pa_nil))) (fun _ _ => rfl)))
      (pss_cons (ps_if (pt_not (pt_val (pe_call G2 hr rfl D2.g D2.k D2.b .nil pas0 (pa_cons (pe_op op_add pe_int (pe_call G1 r1 rfl D1.g D1.k D1.b .nil pas0 (pa_cons (pv 1) (pa_cons pe_int pa_nil)))) (pa_cons (pv 2) pa_nil))))) pss_no pss_nil)
      (pss_cons (ps_set (i := 3) scLaw.nd rfl (Or.inr rfl) (pe_call G0 r2 rfl D0.g D0.k D0.b .nil pas0 (pa_cons (pv 0) (pa_cons pe_int pa_nil))))
      (pss_cons (ps_set (i := 4) scLaw.nd rfl (Or.inr rfl) (pe_call G3 r2 rfl D3.g D3.k D3.b .nil pas0 (pa_cons (pv 3) (pa_cons pe_int (pa_cons pe_int pa_nil)))))
      (pss_cons (ps_setLc (i := 5) (own := [("_law_c", 6)]) (g := gName 6) (tt := tTest (tOp rEq (tCall spDraw [] E0 (tCons (tVar 3) (tCons (tC (.int 2)) tNil))) (tC (.int 1)))) (te := tVar 6) rfl scLaw.nd rfl rfl (sw_true rfl rfl rfl (by decide +kernel)) (pi_range1 rfl W.range (pa_cons (pv 4) pa_nil)) (blkOk_by (N := nLaw) (sc := defScope s_law) (by decide +kernel))
          (fun _ _ _ _ _ => pg_name (i := 6) scLaw.nd rfl (Or.inl rfl)) (fun _ _ _ _ _ => pts_one (pt_cmpR op_eq (pe_call G1 r1 rfl D1.g D1.k D1.b .nil pas0 (pa_cons (pv 3) (pa_cons pe_int pa_nil))) pe_int (nomark _))) (fun _ _ _ _ _ => pv 6))
      (pss_cons (ps_set (i := 7) scLaw.nd rfl (Or.inl rfl) (pe_call G4 r1 rfl D4.g D4.k D4.b .nil pas0 (pa_cons (pv 5) (pa_cons (pv 4) pa_nil))))
      (pss_cons (ps_set (i := 8) scLaw.nd rfl (Or.inl rfl) (pe_call G5 r1 rfl D5.g D5.k D5.b .nil pas0 (pa_cons (pv 5) (pa_cons (pv 4) pa_nil))))
      (pss_cons (ps_set (i := 9) scLaw.nd rfl (Or.inl rfl) (pe_call G7 r6 rfl D7.g D7.k D7.b .nil pas0 (pa_cons (pe_call G6 r1 rfl D6.g D6.k D6.b .nil pas0 (pa_cons (pv 7) pa_nil)) (pa_cons (pv 2) pa_nil))))
      (pss_cons (ps_if (PW.pt (pw_or (pt_cmp (pc_isN (pv 9))) (pw_or (pt_cmpR (op_neD hu) (pe_ix ix_list (pv 9) pe_int (fun _ _ => rfl)) (pv 7) (nomark _)) (pw_or1 (pt_cmpR op_notBl (pe_call G8 r1 rfl D8.g D8.k D8.b .nil pas0 (pa_cons (pe_callTy call_list_of rfl W.list PyProof.Rows.boot_list (pa_cons (pv 7) pa_nil)) pa_nil)) pe_bl (nomark _)))))) pss_no pss_nil)
      (pss_cons (ps_set (i := 9) scLaw.nd rfl (Or.inl rfl) (pe_call G7 r6 rfl D7.g D7.k D7.b .nil pas0 (pa_cons (pv 8) (pa_cons (pv 2) pa_nil))))
      (pss_cons (ps_if (PW.pt (pw_or (pt_cmp (pc_isN (pv 9))) (pw_or (pt_cmpR (op_neD hu) (pe_ix ix_list (pv 9) pe_int (fun _ _ => rfl)) (pv 8) (nomark _)) (pw_or1 (pt_cmpR op_notBl (pe_call G8 r1 rfl D8.g D8.k D8.b .nil pas0 (pa_cons (pe_callTy call_list_of rfl W.list PyProof.Rows.boot_list (pa_cons (pv 8) pa_nil)) pa_nil)) pe_bl (nomark _)))))) pss_no pss_nil)
      (pss_cons (ps_set (i := 10) scLaw.nd rfl (Or.inr rfl) (pe_call G0 r2 rfl D0.g D0.k D0.b .nil pas0 (pa_cons (pv 0) (pa_cons pe_int pa_nil))))
      (pss_cons (ps_set (i := 11) scLaw.nd rfl (Or.inl rfl) (pe_callB cr_sortedI (by rfl) W.sorted boot_sorted (pa_cons (pe_l1 (own := [("_law_c", 6)]) (g := gName 6) (te := tCB rInt (tCons (tCall spDraw [] E0 (tCons (tVar 10) (tCons (tVar 4) tNil))) tNil)) rfl scLaw.nd (pi_range1 rfl W.range (pa_cons (pv 4) pa_nil)) (blkOk_by (N := nLaw) (sc := defScope s_law) (by decide +kernel))
          (fun _ _ _ _ _ => pg_name (i := 6) scLaw.nd rfl (Or.inl rfl)) (fun _ _ _ _ _ => pts_nil) (fun _ _ _ _ _ => pe_callTy call_int1 rfl L.int PyProof.Rows.boot_int (pa_cons (pe_call G1 r1 rfl D1.g D1.k D1.b .nil pas0 (pa_cons (pv 10) (pa_cons (pv 4) pa_nil))) pa_nil))) pa_nil)))
      (pss_cons (ps_asg pe_int (pg_sub (pv 11) pe_int set_list))
      (pss_cons (ps_set (i := 9) scLaw.nd rfl (Or.inl rfl) (pe_call G7 r6 rfl D7.g D7.k D7.b .nil pas0 (pa_cons (pv 11) (pa_cons (pv 2) pa_nil))))
      (pss_cons (ps_if (PW.pt (pw_or (pt_cmp (pc_isN (pv 9))) (pw_or (pt_cmpR op_notBl (pe_call G8 r1 rfl D8.g D8.k D8.b .nil pas0 (pa_cons (pe_callTy call_list_of rfl W.list PyProof.Rows.boot_list (pa_cons (pe_ix ix_list (pv 9) pe_int (fun _ _ => rfl)) pa_nil)) pa_nil)) pe_bl (nomark _)) (pw_or1 (pt_cmpR op_notBl (pe_call G8 r1 rfl D8.g D8.k D8.b .nil pas0 (pa_cons (pe_callTy call_list_of rfl W.list PyProof.Rows.boot_list (pa_cons (pe_ix ix_list (pv 9) pe_int (fun _ _ => rfl)) pa_nil)) pa_nil)) pe_bl (nomark _)))))) pss_no pss_nil)
      (pss_one (ps_ret (pe_and (pe_call G9 r1 rfl D9.g D9.k D9.b .nil pas0 (pa_cons (pe_ix ix_list (pv 9) pe_int (fun _ _ => rfl)) (pa_cons pe_bl pa_nil))) (pe_one (pe_call G9 r1 rfl D9.g D9.k D9.b .nil pas0 (pa_cons (pe_ix ix_list (pv 9) pe_int (fun _ _ => rfl)) (pa_cons pe_bl pa_nil))))))))))))))))))))))), ?_⟩
    refine src_go (σ := [some (.ref a), none, none, none, none, none, none, none, none, none, none, none]) (i := 0) (k := 0) hS hz rfl fun p1 H1 np1 e1 s1 => ?_
    have na1 : off H1 p1 p1 = none := off_none
    refine q_asgD (σ := [some (.ref a), some (.ref p1), none, none, none, none, none, none, none, none, none, none]) (G := off H1 p1) (a := p1) (k := 0 + 1) (R := fun v => ∃ c, c ∈ smallsS.cps.toList ∧ v = .str ⟨#[c]⟩) (ed_pick (s := smallsS) (m := 20) ev_c (ed_draw rfl ev_c (by decide) na1) (by decide +kernel) (by decide +kernel) (by decide +kernel)) off_ex s1 (by decide) fun v H2 ⟨c, hc, hv⟩ e2 b2 s2 => ?_
    subst hv
    have hl : One ⟨#[c]⟩ := by rw [One, inS_one]; exact decide_eq_true hc
    generalize (⟨#[c]⟩ : PySem.Str) = l at hl
    refine q_whenD (k := 0 + 1) (Rb := fun b => b = false) (etd_short (ed_op (ed_of ev_c) (fun _ _ => ed_draw rfl ev_c (by decide) na1) fun x y rx ⟨r, ry, r0, r1⟩ => ?_) rfl hl) e2 s2 (by decide) (fun _ z => Bool.noConfusion z) fun H3 _ e3 b3 s3 => ?_
    · subst rx ry
      exact ⟨_, ⟨(1 + r).toNat, by rw [Int.toNat_of_nonneg (by omega)], by omega, by omega⟩, rv_I0⟩
    have E3 : Ex H H3 := (b2.trans b3).base e1 np1
    refine src_go (σ := [some (.ref a), some (.ref p1), some (.str l), none, none, none, none, none, none, none, none, none]) (i := 0) (k := 1) (ex_l E3 hS) hz rfl fun p2 H4 np2 e4 s4 => ?_
    have na2 : off H4 p2 p2 = none := off_none
    refine q_asgD (σ := [some (.ref a), some (.ref p1), some (.str l), some (.ref p2), none, none, none, none, none, none, none, none]) (G := off H4 p2) (a := p2) (k := 2) (R := Rsize 60) (ed_call (ea_cons (ev_var rfl) (ea_cons ev_c (ea_cons ev_c ea_nil))) (fun n H1 e s hn Q q E => ⟨12, 60, by decide, by decide, by decide, p2, n, rfl, s, hn, q⟩) na2) off_ex s4 (by decide) fun v H5 ⟨r, hv, rl, rh⟩ e5 b5 s5 => ?_
    obtain ⟨n, rfl⟩ : ∃ n : Nat, r = (n : Int) := ⟨r.toNat, by omega⟩
    subst hv
    have n1 : 1 ≤ n := by omega
    have n60 : n ≤ 60 := by omega
    have e04 : Ex H H4 := E3.trans e4
    have hp2 : H p2 = none := fresh_back E3 np2
    have x5 : n = ((n : Int)).toNat := (Int.toNat_natCast n).symm
    refine q_asgE (fun v H6 => ∃ p M, v = .ref p ∧ Ex H H6 ∧ H6 p = some (.lst (nv M)) ∧ M.length ≤ n ∧ ∀ m ∈ M, m < n) (fun Q q => kc_draw (P := P) (w := w) (G := off H4 p2) (a := p2) (k1 := 1) (k2 := 0) (b := n) (Rb := fun _ => True) (xs := nums 0 (n : Int).toNat) (wi := iRng1 (tCons (tVar 4) tNil)) (j := 6) (vs := [6]) (tt := tTest (tOp rEq (tCall spDraw [] E0 (tCons (tVar 3) (tCons (tC (.int 2)) tNil))) (tC (.int 1)))) (te := tVar 6) False (fun z => z.elim) (ei_rng1 (ea_cons (ev_var rfl) ea_nil) (by omega) (by omega)) na2 (by rw [nums_len]; omega) (fun _ => rfl)
      (fun i x G1 _ g1 hx => etd_test (ed_op (k1 := 1) (k2 := 0) (ed_draw rfl ev_c (by decide) g1) (fun _ _ => ed_of ev_c) fun x y ⟨r, rx, _⟩ ry => by subst rx ry; exact ⟨_, ⟨_, rfl, trivial⟩, rv_eq rfl⟩)) (fun i x G1 _ g1 hx => ?_) e5 s5 ?_ fun p M H6 hp e6 b6 s6 h6 m1 _ m3 => ?_) fun v H6 ⟨mp, M, hv, E6, h6, m1, m3⟩ => ?_
    · obtain ⟨hi, rfl⟩ := nums_at hx
      exact (ed_of (ev_var rfl)).imp fun v hv => ⟨i, by rw [hv, Int.zero_add], by omega⟩
    · rw [nums_len, Int.toNat_natCast]; omega
    · rw [nums_len, Int.toNat_natCast] at m1
      exact q _ _ ⟨p, M, rfl, (b5.trans b6).base e04 hp2, h6, m1, m3⟩
    subst hv
    have m1k : M.length ≤ 1000 := by omega
    refine q_asgL (el_call (ea_cons (ev_var rfl) (ea_cons (ev_var rfl) ea_nil)) (sl_up (K := K) (g := upT) (sq_of h6) m1k n1 (by omega))) fun up H7 _ e7 h7 => ?_
    refine q_asgL (el_call (ea_cons (ev_var rfl) (ea_cons (ev_var rfl) ea_nil)) (sl_up (K := K) (g := dnT) (sq_of (e7 _ _ h6)) m1k n1 (by omega))) fun dn H8 _ e8 h8 => ?_
    have h78 := e8 _ _ h7
    have lu : (upT M n).length = n := upT_len M n
    have ld : (dnT M n).length = n := dnT_len M n
    have gu := up_grd (M := M) n1 n60 m3
    have gd := dn_grd M n1 n60
    have ub := up_back (M := M) n1 n60 m3
    have db := dn_back M n1 n60
    have ru := up_ris (M := M) n1 n60 m3
    refine q_asg2 (ew2_pairL (K := K) (el_call (ea_cons (ev_var rfl) ea_nil) (sl_nm (K := K) (sq_of h78) (by omega))) rfl gu hl) fun q1 q10 q11 H9 _ _ _ _ _ _ e9 g9 g90 g91 => ?_
    rw [ub] at g90
    have h79 := e9 _ _ h78
    have h89 := e9 _ _ h8
    have isn : ∀ {σ : L2.St} {H : Hp} {i : Nat} {b : Addr}, σ[i]? = some (some (.ref b)) → EvT (tB (tIsN (tVar i))) σ H false := fun h => et_is (et_B (ev_isN (ev_var h))) (decide_eq_false fun h => nomatch h)
    have at0 : ∀ (a b : Addr), atI [V.ref a, .ref b] 0 = some (.ref a) := fun _ _ => rfl
    have at1 : ∀ (a b : Addr), atI [V.ref a, .ref b] 1 = some (.ref b) := fun _ _ => rfl
    refine q_when (b := false) (et_is (et_or (a := false) (b := false) (isn rfl) fun _ => et_is (et_or (a := false) (b := false) (ev_neD (K := K) (U := upT M n) (ev_op (ev_var rfl) ev_c (rv_ixL (sq_of g9) (at0 _ _))) (ev_var rfl) (dp_nums (sq_of g90)) (dp_nums (sq_of h79))) fun _ => et_risL (el_list (K := K) (ev_var rfl) (sq_of h79)) (by omega) ru) rfl) rfl) (fun z => Bool.noConfusion z) fun _ Ha ea => ?_
    have h8a := ea _ _ h89
    refine q_asg2 (ew2_pair (K := K) (ev_var rfl) (sq_of h8a) rfl gd hl) fun t1 t10 t11 Hb _ _ _ _ _ _ eb gb gb0 gb1 => ?_
    rw [db] at gb1
    have h8b := eb _ _ h8a
    refine q_when (b := false) (et_is (et_or (a := false) (b := false) (isn rfl) fun _ => et_is (et_or (a := false) (b := false) (ev_neD (K := K) (U := dnT M n) (ev_op (ev_var rfl) ev_c (rv_ixL (sq_of gb) (at1 _ _))) (ev_var rfl) (dp_nums (sq_of gb1)) (dp_nums (sq_of h8b))) fun _ => et_risL (el_list (K := K) (ev_var rfl) (sq_of h8b)) (by omega) gd.ris) rfl) rfl) (fun z => Bool.noConfusion z) fun _ Hc ec => ?_
    have Ec : Ex H Hc := (((((E6.trans e7).trans e8).trans e9).trans ea).trans eb).trans ec
    refine src_go (σ := [some (.ref a), some (.ref p1), some (.str l), some (.ref p2), some (.int (n : Int)), some (.ref mp), none, some (.ref up), some (.ref dn), some (.ref t1), none, none]) (i := 0) (k := 2) (ex_l Ec hS) hz rfl fun p3 Hd np3 ed sd => ?_
    have na3 : off Hd p3 p3 = none := off_none
    have hp3 : H p3 = none := fresh_back Ec np3
    show tSeq (tAsg (tCB (rSortedI K) (tCons (tKc P w .lst (iRng1 (tCons (tVar 4) tNil)) (gName 6) tYes (tCB rInt (tCons (tCall spDraw [] E0 (tCons (tVar 10) (tCons (tVar 4) tNil))) tNil)) [6]) tNil)) (gName 11)) _ _ [some (.ref a), some (.ref p1), some (.str l), some (.ref p2), some (.int (n : Int)), some (.ref mp), none, some (.ref up), some (.ref dn), some (.ref t1), some (.ref p3), none] Hd
    refine q_asgE (fun v He => ∃ p U, v = .ref p ∧ H p = none ∧ Ex H He ∧ He p = some (.lst (nv U)) ∧ U.length = n ∧ Grd (U.set 0 0)) (fun Q q => tcb_one (kc_draw (P := P) (w := w) (σ := [some (.ref a), some (.ref p1), some (.str l), some (.ref p2), some (.int (n : Int)), some (.ref mp), none, some (.ref up), some (.ref dn), some (.ref t1), some (.ref p3), none]) (G := off Hd p3) (a := p3) (k1 := 0) (k2 := 1) (b := n) (Rb := fun b => b = true) (xs := nums 0 (n : Int).toNat) (wi := iRng1 (tCons (tVar 4) tNil)) (j := 6) (vs := [6]) (tt := tYes) (te := tCB rInt (tCons (tCall spDraw [] E0 (tCons (tVar 10) (tCons (tVar 4) tNil))) tNil)) True (fun _ _ z => z) (ei_rng1 (ea_cons (ev_var rfl) ea_nil) (by omega) (by omega)) na3 (by rw [nums_len]; omega) (fun _ => rfl)
      (fun i x G1 _ g1 hx => etd_yes) (fun i x G1 _ g1 hx => by exact ed_int ((ed_draw (m := (n : Int)) rfl (ev_var rfl) (by omega) g1).imp fun v ⟨r, hv, r0, r1⟩ => ⟨r.toNat, by rw [hv, Int.toNat_of_nonneg r0], by omega⟩) fun v ⟨k, hv, _⟩ => ⟨_, hv⟩) off_ex sd ?_ fun p M2 He hp ee be se he _ m2 m3' => ?_)) fun v He ⟨dp, U, hv, hdp, Ee, he, lU, gU⟩ => ?_
    · rw [nums_len, Int.toNat_natCast]; omega
    · rw [nums_len, Int.toNat_natCast] at m2
      refine ⟨p, M2.map fun (k : Nat) => (k : Int), rfl, by rw [List.map_map]; exact sq_of he, fun ns' p' hpm hpw hp' => ?_⟩
      obtain ⟨U, rfl⟩ := nat_of hpm
      obtain ⟨lU, gU⟩ := srt_ris hpm hpw (m2 trivial) m3' n1 n60
      have Ee : Ex H He := be.base (Ec.trans ed) hp3
      refine q _ _ ⟨p', U, rfl, fresh_back Ee hp', Ee.trans (Ex.new hp'), ?_, lU, gU⟩
      rw [upd_same, List.map_map]
      rfl
    subst hv
    refine q_setL (j := 0) he ev_c (ev_var rfl) ev_c (by rw [List.length_map]; omega) fun Hf ef => ?_
    have Eg : Ex H (upd Hf dp (.lst ((nv U).set 0 (.int 0)))) := Ex.mut (Ee.trans ef) hdp
    have hg : (upd Hf dp (.lst ((nv U).set 0 (.int 0)))) dp = some (.lst (nv (U.set 0 0))) := by rw [upd_same, nv, nv, List.map_set]; rfl
    show tSeq _ _ _ _ (upd Hf dp (.lst ((nv U).set 0 (.int 0))))
    generalize upd Hf dp (.lst ((nv U).set 0 (.int 0))) = Hg at Eg hg
    have lS : (U.set 0 0).length = n := by rw [List.length_set]; exact lU
    generalize U.set 0 0 = T at hg gU lS
    refine q_asg2 (ew2_pair (K := K) (ev_var rfl) (sq_of hg) rfl gU hl) fun t2 t20 t21 Hh _ _ _ _ _ _ eh gh gh0 gh1 => ?_
    have l0 : (compT (backT T) T).length = n := by rw [comp_len]; exact lS
    have l1 : (compT T (backT T)).length = n := by rw [comp_len, back_len]; exact lS
    have rb := ris_bt gU
    have rt := ris_tb gU
    refine q_when (b := false) (et_is (et_or (a := false) (b := false) (isn rfl) fun _ => et_is (et_or (a := false) (b := false) (et_risL (el_list (K := K) (ev_op (ev_var rfl) ev_c (rv_ixL (sq_of gh) (at0 _ _))) (sq_of gh0)) (by omega) rb) fun _ => et_risL (el_list (K := K) (ev_op (ev_var rfl) ev_c (rv_ixL (sq_of gh) (at1 _ _))) (sq_of gh1)) (by omega) rt) rfl) rfl) (fun z => Bool.noConfusion z) fun _ Hi ei => ?_
    have gi := ei _ _ gh
    have gi0 := ei _ _ gh0
    have gi1 := ei _ _ gh1
    exact s_ret (v := .bl true) (ev_is (ev_andV (a := true) (b := true) (ev_is (ev_call (ea_cons (ev_op (ev_var rfl) ev_c (rv_ixL (sq_of gi) (at0 _ _))) (ea_cons ev_c ea_nil)) (sv_rnd (K := K) (up := true) (sq_of gi0) rb.tb (by omega))) (by rw [rounds_bt gU])) fun _ =>
      ev_is (ev_call (ea_cons (ev_op (ev_var rfl) ev_c (rv_ixL (sq_of gi) (at1 _ _))) (ea_cons ev_c ea_nil)) (sv_rnd (K := K) (up := false) (sq_of gi1) rt.tb (by omega))) (by rw [rounds_tb gU])) rfl) fun Hj ej => k Hj (((Eg.trans eh).trans ei).trans ej)
end
end Z
end
/-! Z23 -/
set_option linter.all false
set_option maxRecDepth 100000
set_option maxHeartbeats 4000000
noncomputable section
namespace Z
open PySem PySem.Spec PyProof.Rows L2 PySem.Froz Evl TS GenW

section
variable {P : Program} {w : World} {K : PySem.W.Frag} {mg : PySem.Str → Option Value} {base : Heap}
theorem all_law {CF CW fI fL fP fD fIt fW fT fS fH pP pL : Addr} {mcF : Value} {dI dL dP dD dIt dW dT dS dH : FuncData} {f0 f1 f2 f3 f4 f5 f6 f7 f8 f9 f10 f11 f12 f13 f14 f15 f16 f17 f18 f19 f20 f21 f22 f23 f24 f25 f26 f27 f28 : Addr} {d0 d1 d2 d3 d4 d5 d6 d7 d8 d9 d10 d11 d12 d13 d14 d15 d16 d17 d18 d19 d20 d21 d22 d23 d24 d25 d26 d27 d28 : FuncData} (W : Wd mg) (L : Lb mg) (FC : FCls K mg CF) (WC : WCls K mg CW) (M : FMet K CF fD fP pP fIt) (kF : Mk K CF fI) (kW : Mk K CW fW)
    (mS : Meth K CW "_shown" fS) (mT : Meth K CW "table_of" fT) (mH : Meth K CW "head_table" fH) (rF : ClX.CRead K CF mcF) (sL : SMet K CF mcF "listed" pL fL)
    (EI : FunD K "__init__" "Facts.__init__" (defArgs s_finit) (defBody s_finit) (defScope s_finit) [] [("paired", .str "")] fI dI)
    (EL : DatD K "listed" "Facts.listed" s_listed [.str ""] [] ["pairs", "paired"] fL dL) (EP : DatM K "paired" "Facts.paired" s_paired ["self"] fP dP) (ED : DatM K "dial_list" "Facts.dial_list" s_fdials ["self"] fD dD) (Et : DatM K "__iter__" "Facts.__iter__" s_fiter ["self"] fIt dIt)
    (EW : DatD K "__init__" "World.__init__" s_winit [.non] [] pWI fW dW) (ET : DatM K "table_of" "World.table_of" s_table_of ["self", "letter"] fT dT) (ES : DatM K "_shown" "World._shown" s_shown ["self", "letter"] fS dS) (EH : DatM K "head_table" "World.head_table" s_headT ["self", "head"] fH dH)
    (D0 : Dat K mg "is_small" s_is_small ["text"] f0 d0)
    (D1 : Dat K mg "check_steps" s_check_steps ["many", "most"] f1 d1)
    (D2 : Dat K mg "check_places" s_checkP ["places", "steps"] f2 d2)
    (D3 : Dat K mg "rising" s_rising ["table"] f3 d3)
    (D4 : Dat K mg "still_table" s_still ["steps"] f4 d4)
    (D5 : Dat K mg "threshold" s_thr ["table", "least"] f5 d5)
    (D6 : Dat K mg "back_table" s_back ["table"] f6 d6)
    (D7 : Dat K mg "put_on" s_put_on ["outer", "inner"] f7 d7)
    (D8 : Dat K mg "walk_tables" s_walk ["steps"] f8 d8)
    (D9 : Dat K mg "told_facts" s_told ["facts"] f9 d9)
    (D10 : Dat K mg "_different" s_diff ["pairs"] f10 d10)
    (D11 : Dat K mg "_check_told" s_checkT ["pairs", "paired", "most"] f11 d11)
    (D12 : Dat K mg "_check_tables" s_checkB ["tables", "steps"] f12 d12)
    (D13 : Dat K mg "_check_kept" s_checkK ["tables", "steps", "facts"] f13 d13)
    (D14 : Dat K mg "_law_read" s_read ["_law_script", "_law_k"] f14 d14)
    (D15 : Dat K mg "_law_source" s_source ["_law_script", "_law_k"] f15 d15)
    (D16 : Dat K mg "_law_draw" s_draw ["_law_source_here", "_law_many"] f16 d16)
    (D17 : Dat K mg "_law_size" s_size ["_law_source_here", "_law_usual", "_law_most"] f17 d17)
    (D18 : Dat K mg "_law_back" s_lback ["_law_table"] f18 d18)
    (D19 : Dat K mg "_law_risings" s_ris ["_law_size_here"] f19 d19)
    (D20 : Dat K mg "_law_is_integer" s_isint ["_law_actual"] f20 d20)
    (D21 : Dat K mg "_law_same_steps" s_same ["_law_actual", "_law_due"] f21 d21)
    (D22 : Dat K mg "_law_rounds" s_rounds ["_law_table", "_law_upward_here"] f22 d22)
    (D23 : Dat K mg "_law_pair" s_pair ["_law_table", "_law_dial"] f23 d23)
    (D24 : Dat K mg "_law_short" s_short ["_law_size_here", "_law_dial"] f24 d24)
    (D25 : Dat K mg "_law_upward" s_up ["_law_marked", "_law_steps"] f25 d25)
    (D26 : Dat K mg "_law_downward" s_dn ["_law_marked", "_law_steps"] f26 d26)
    (D27 : Dat K mg "_law_numbers" s_nums ["_law_table"] f27 d27)
    (D28 : Dat K mg "law" s_law ["_law_script"] f28 d28)
    : FnOk P w K mg base (L2.CX P w) 8 f28 d28 ["_law_script"] (spLaw K) := by
  have G0 := ok_is_small (P := P) (w := w) (base := base) W D0
  have G1 := ok_check_steps (P := P) (w := w) (base := base) D1
  have G2 := ok_checkP (P := P) (w := w) (base := base) D2
  have G3 := ok_rising (P := P) (w := w) (base := base) W D3
  have G4 := ok_still (P := P) (w := w) (base := base) W D4
  have G5 := ok_thr (P := P) (w := w) (base := base) W D5
  have G6 := ok_back (P := P) (w := w) (base := base) W D6 D5 G5
  have G7 := ok_put_on (P := P) (w := w) (base := base) D7
  have Gw8 := ok_walk8 (P := P) (w := w) (base := base) W D8 D1 G1
  have G8 := ok_walk (P := P) (w := w) (base := base) W D8 D1 G1
  have G9 := ok_told (P := P) (w := w) (base := base) D9
  have G10 := ok_diff (P := P) (w := w) (base := base) W D10
  have G11 := ok_checkT (P := P) (w := w) (base := base) W D11 D0 G0 D10 G10
  have G12 := ok_checkB (P := P) (w := w) (base := base) W D12 D0 G0 D3 G3
  have GI := ok_finit (P := P) (w := w) (base := base) W FC EI D11 G11 D10 G10
  have GL := ok_listed (P := P) (w := w) (base := base) W FC kF EL GI
  have GP := ok_paired (P := P) (w := w) (base := base) FC EP
  have GD := ok_fdials (P := P) (w := w) (base := base) W FC ED
  have Gt := ok_fiter (P := P) (w := w) (base := base) W FC Et
  have G13 := ok_checkK (P := P) (w := w) (base := base) W FC M D13 D4 G4 ED GD EP GP Gt
  have GW := ok_winit (P := P) (w := w) (base := base) W FC WC M EW D1 G1 D2 G2 D12 G12 D9 G9 D13 G13 D6 G6 EP GP
  have GS := ok_shown (P := P) (w := w) (base := base) WC ES
  have GT := ok_table_of (P := P) (w := w) (base := base) W WC mS ET ES GS
  have GH := ok_headT (P := P) (w := w) (base := base) W WC mT EH ET GT D4 G4
  have G14 := ok_read (P := P) (w := w) (base := base) W D14
  have G15 := ok_source (P := P) (w := w) (base := base) L D15 D14 G14
  have G16 := ok_draw (P := P) (w := w) (base := base) L D16
  have G17 := ok_size (P := P) (w := w) (base := base) D17 D16 G16
  have G18 := ok_lback (P := P) (w := w) (base := base) W D18
  have G19 := ok_risings (P := P) (w := w) (base := base) W D19
  have G20 := ok_isint (P := P) (w := w) (base := base) L D20
  have G21 := ok_same (P := P) (w := w) (base := base) W L D21 D20 G20
  have G22 := ok_rounds (P := P) (w := w) (base := base) W D22
  have F : PairFn P w K mg base CF CW mcF f18 f6 f21 f7 fL fW fT fH pL d18 d6 d21 d7 dL dW dT dH := ⟨W, FC, WC, D18, G18, D6, G6, D21, G21, D7, G7, rF, sL, EL, GL, kW, EW, GW, mT, ET, GT, mH, EH, GH⟩
  have G23 := ok_pair F D23
  have G24 := ok_short (P := P) (w := w) (base := base) W D24 D19 G19 D8 G8 Gw8 D21 G21 D3 G3 D23 G23 D22 G22
  have G25 := ok_up (P := P) (w := w) (base := base) W D25
  have G26 := ok_dn (P := P) (w := w) (base := base) W D26
  have G27 := ok_nums (P := P) (w := w) (base := base) W D27
  exact ok_law W L D28 D15 G15 D16 G16 D24 G24 D17 G17 D25 G25 D26 G26 D27 G27 D23 G23 D3 G3 D22 G22
end
end Z
end
/-! Z24 -/
set_option linter.all false
set_option maxRecDepth 100000
set_option maxHeartbeats 4000000
noncomputable section
namespace Z
open PySem PySem.Spec PyProof.Rows L2 PySem.Froz Evl TS GenW

/-! ### the head's facts, each a test over the part of the heap that is looked at -/
def mcT : Value := .type "type"
def cA (K : PySem.W.Frag) (x : PySem.Str) : Addr := He.ga K x
/-- the object that the class x has under the name m -/
def oA (K : PySem.W.Frag) (x m : PySem.Str) : Addr := He.ma K (He.ga K x) m
/-- the def inside of it -/
def inA (K : PySem.W.Frag) (x m : PySem.Str) (T : String) : Addr := match PySem.W.recIn K (oA K x m) T with
  | some (.ref g :: _) => g
  | _ => 0
def inB (K : PySem.W.Frag) (x m : PySem.Str) (T : String) : Bool := match PySem.W.recIn K (oA K x m) T with
  | some (.ref _ :: _) => true
  | _ => false
def propB (K : PySem.W.Frag) (x m : PySem.Str) : Bool := He.eqO (PySem.W.findIn K (.ref (cA K x)) m) (some (some (.ref (oA K x m)))) &&
  (He.eqO (PySem.W.specialIn K (.ref (oA K x m)) "__get__") (some (some (.builtin "property.__get__"))) && (decide (PySem.W.takesIn K (.ref (oA K x m)) = some true) && inB K x m "property"))
def statB (K : PySem.W.Frag) (x m : PySem.Str) : Bool := (match PySem.W.findCls K (.ref (cA K x)) mcT m with
  | some (.get (.builtin n) (.ref q) .none (.ref c)) => n == "staticmethod.__get__" && (Nat.beq q (oA K x m) && Nat.beq c (cA K x))
  | _ => false) && (inB K x m "staticmethod" && PySem.W.keepIn K (.ref (inA K x m "staticmethod")))
def readB (K : PySem.W.Frag) (x : PySem.Str) : Bool := PySem.W.readsIn K (cA K x) mcT && He.eqO (PySem.W.specialIn K (.ref (cA K x)) "__getattribute__") (some (some (.builtin "type.__getattribute__")))
def conB (K : PySem.W.Frag) (x m : PySem.Str) (i : Int) : Bool := match PySem.W.findCls K (.ref (cA K x)) mcT m with
  | some (.val (.int j _)) => decide (j = i)
  | _ => false
section
variable {K : PySem.W.Frag} {h : Heap} {mg : PySem.Str → Option Value} {x m : PySem.Str}
theorem inB_ok {T : String} (c : inB K x m T = true) : ∃ rest, PySem.W.recIn K (oA K x m) T = some (.ref (inA K x m T) :: rest) := by
  unfold inB at c
  unfold inA
  split at c
  · rename_i g rest e
    rw [e]
    exact ⟨rest, rfl⟩
  · cases c
theorem propB_ok (c : propB K x m = true) : PropOf K (cA K x) m (oA K x m) (inA K x m "property") := by
  unfold propB at c
  simp only [Bool.and_eq_true, decide_eq_true_eq] at c
  obtain ⟨c1, c2, c3, c4⟩ := c
  exact ⟨He.eqO_ok c1, He.eqO_ok c2, c3, inB_ok c4⟩
theorem statB_ok (c : statB K x m = true) : SMet K (cA K x) mcT m (oA K x m) (inA K x m "staticmethod") := by
  unfold statB at c
  simp only [Bool.and_eq_true] at c
  obtain ⟨c1, c2, c3⟩ := c
  refine ⟨?_, inB_ok c2, c3⟩
  split at c1
  · rename_i n q cc e
    simp only [Bool.and_eq_true, beq_iff_eq] at c1
    obtain ⟨rfl, c5, c6⟩ := c1
    rw [Nat.eq_of_beq_eq_true c5, Nat.eq_of_beq_eq_true c6] at e
    exact e
  · cases c1
theorem readB_ok (c : readB K x = true) : ClX.CRead K (cA K x) mcT := by
  unfold readB at c
  rw [Bool.and_eq_true] at c
  exact ⟨c.1, He.eqO_ok c.2⟩
theorem conB_ok {i : Int} (c : conB K x m i = true) : ∃ t, ClX.CVal K (cA K x) mcT m (.int i) (.int i t) := by
  unfold conB at c
  split at c
  · rename_i j t e
    have ej : j = i := of_decide_eq_true c
    subst ej
    exact ⟨t, e, ⟨t, rfl⟩⟩
  · cases c
/-! a def at an address of its own -/
def fnAt (K : PySem.W.Frag) (a : Addr) : He.FnW :=
  match K.lookup a with
  | some ⟨_, _, .func d, _⟩ =>
    some (d.name, d.qualname, d.params, d.body, d.scope,
      d.globals, d.closure, d.builtins)
  | _ => none
def okAt (K : PySem.W.Frag) (a : Addr) (d : He.DefD) : Bool :=
  match K.lookup a with
  | some ⟨_, _, .func e, _⟩ =>
    PySem.W.keepIn K (.ref a) && (PySem.W.codeIn K e.code d.qual &&
      (He.dflB K e.defaults (d.dvs K) && He.kwdB K e.kwdefaults (d.kws K)))
  | _ => false
theorem fnAt_ok {a : Addr} {d : He.DefD} (e : fnAt K a = d.val) (c : okAt K a d = true) : ∃ fd, FunD K d.name d.qual d.params d.body d.scope (d.dvs K) (d.kws K) a fd := by
  unfold okAt at c
  unfold fnAt at e
  split at c
  · rename_i oc od fd osl l
    rw [l] at e
    simp only [Bool.and_eq_true] at c
    obtain ⟨c1, c2, c3, c4⟩ := c
    obtain ⟨z1, z2, z3, z4, z5, z6, z7, z8, z9, z10, z11, z12, z13, z14, z15⟩ := fd
    have e : (some (z1, z2, z3, z4, z5, z6, z7, z15) : He.FnW) = some (d.name, d.qual, d.params, .stmts d.body, d.scope, mainGlobals, [], builtinsNs) := e
    cases e
    exact ⟨_, ⟨oc, od, z8, z9, z10, z11, z12, z13, z14, osl, rfl, l, c2, He.dflB_ok c3, He.kwdB_ok c4⟩, c1⟩
  · cases c
theorem fun_of {n q : PySem.Str} {st : Stmt} {f : Addr} {fd : FuncData} (F : FunD K n q (defArgs st) (defBody st) (defScope st) [] [] f fd) : Fun K n q st f fd := by
  obtain ⟨⟨oc, od, dV, kV, doc, pm, an, cdv, ct, osl, e, l, c, dv, kv⟩, kp⟩ := F
  rcases dv with ⟨_, rfl⟩ | ⟨z, _⟩
  · exact ⟨⟨oc, od, kV, doc, pm, an, cdv, ct, osl, e, l, c⟩, kp⟩
  · exact absurd rfl z
theorem dat_of (X : K.In h) (G : h.Ns mainGlobals mg) {n : String} {st : Stmt} {ps : List PySem.Str} (c : (He.Fa.glo n).ok K = true) (hF : ∃ fd, FunD K n n (defArgs st) (defBody st) (defScope st) [] [] (He.ga K n) fd)
    (b : ∀ (kV doc pm : Value) (an : Option Addr) (cdv ct : Value) (us : List Value), us.length = ps.length → bindArgs (PySem.W.fnOf n n (defArgs st) (defBody st) (defScope st) .none kV doc pm an cdv ct) ⟨us, []⟩ = pure (ps.zip us)) : ∃ fd, Dat K mg n st ps (He.ga K n) fd := by
  obtain ⟨fd, F⟩ := hF
  exact ⟨fd, fun_of F, (fun_of F).binds b, He.glo_ok X G c, F.kp⟩
theorem datm_of {n q : String} {st : Stmt} {ps : List PySem.Str} {f : Addr} (hF : ∃ fd, FunD K n q (defArgs st) (defBody st) (defScope st) [] [] f fd)
    (b : ∀ (kV doc pm : Value) (an : Option Addr) (cdv ct : Value) (us : List Value), us.length = ps.length → bindArgs (PySem.W.fnOf n q (defArgs st) (defBody st) (defScope st) .none kV doc pm an cdv ct) ⟨us, []⟩ = pure (ps.zip us)) : ∃ fd, DatM K n q st ps f fd := by
  obtain ⟨fd, F⟩ := hF
  exact ⟨fd, fun_of F, (fun_of F).binds b⟩
theorem datd_of {n q : String} {st : Stmt} {ps : List PySem.Str} {f : Addr} {v : V} (hF : ∃ fd, FunD K n q (defArgs st) (defBody st) (defScope st) [v] [] f fd)
    (b : ∀ (T : Addr) (kV doc pm : Value) (an : Option Addr) (cdv ct : Value) (us : List Value) (u : Value), us.length = ps.length →
      ∃ k, bindArgs (PySem.W.fnOf n q (defArgs st) (defBody st) (defScope st) (.ref T) kV doc pm an cdv ct) ⟨us, []⟩ = seqItems? (.ref T) >>= k ∧ k (some #[u]) = pure (ps.zip us)) : ∃ fd, DatD K n q st [v] [] ps f fd := by
  obtain ⟨fd, F⟩ := hF
  refine ⟨fd, F, ?_⟩
  obtain ⟨ds, hv, hb⟩ := F.binds1 (ps := ps) ps.length 1 (by simp) (by simp) fun T kV doc pm an cdv ct us its hu hi => by
    match its, hi with
    | [u], _ =>
      obtain ⟨k, k1, k2⟩ := b T kV doc pm an cdv ct us u hu
      exact ⟨k, k1, by simpa using k2⟩
  cases hv
  exact hb
end
def faA : List He.Fa := [.glo "is_small", .glo "check_steps", .glo "check_places", .glo "rising", .glo "still_table", .glo "threshold", .glo "back_table", .glo "put_on", .glo "walk_tables", .glo "told_facts", .glo "_different", .glo "_check_told", .glo "_check_tables", .glo "_check_kept", .glo "_law_read"]
def faB : List He.Fa := [.glo "_law_source", .glo "_law_draw", .glo "_law_size", .glo "_law_back", .glo "_law_risings", .glo "_law_is_integer", .glo "_law_same_steps", .glo "_law_rounds", .glo "_law_pair", .glo "_law_short", .glo "_law_upward", .glo "_law_downward", .glo "_law_numbers", .glo "law"]
def faC : List He.Fa := [.str "SMALL_LETTERS" smallsS, .int "MOST_WALKED" 8, .free "len", .free "all", .free "range", .free "set", .free "sorted", .free "list", .free "tuple", .free "dict", .free "zip", .free "enumerate", .free "reversed", .free "iter", .free "max", .free "min", .free "abs", .free "int", .free "isinstance", .free "list", .free "bool"]
def faF : List He.Fa := [.cls "Facts", .noat "Facts" "_rows", .noat "Facts" "_paired", .noat "Facts" "_over", .glo "Facts", .meth "Facts" "dial_list", .meth "Facts" "__iter__", .mkr "Facts"]
def faW : List He.Fa := [.cls "World", .noat "World" "_facts", .noat "World" "_steps", .noat "World" "_places", .noat "World" "_tables", .noat "World" "_backs", .glo "World", .meth "World" "_shown", .meth "World" "table_of", .meth "World" "head_table", .mkr "World"]
def faX : List He.Fa := faA ++ (faB ++ (faC ++ (faF ++ faW)))
def fnA : List He.DefD := [⟨("is_small", none), "is_small", "is_small", defArgs s_is_small, defBody s_is_small, defScope s_is_small, [], []⟩,
  ⟨("check_steps", none), "check_steps", "check_steps", defArgs s_check_steps, defBody s_check_steps, defScope s_check_steps, [], []⟩,
  ⟨("check_places", none), "check_places", "check_places", defArgs s_checkP, defBody s_checkP, defScope s_checkP, [], []⟩,
  ⟨("rising", none), "rising", "rising", defArgs s_rising, defBody s_rising, defScope s_rising, [], []⟩,
  ⟨("still_table", none), "still_table", "still_table", defArgs s_still, defBody s_still, defScope s_still, [], []⟩,
  ⟨("threshold", none), "threshold", "threshold", defArgs s_thr, defBody s_thr, defScope s_thr, [], []⟩,
  ⟨("back_table", none), "back_table", "back_table", defArgs s_back, defBody s_back, defScope s_back, [], []⟩,
  ⟨("put_on", none), "put_on", "put_on", defArgs s_put_on, defBody s_put_on, defScope s_put_on, [], []⟩,
  ⟨("walk_tables", none), "walk_tables", "walk_tables", defArgs s_walk, defBody s_walk, defScope s_walk, [], []⟩,
  ⟨("told_facts", none), "told_facts", "told_facts", defArgs s_told, defBody s_told, defScope s_told, [], []⟩,
  ⟨("_different", none), "_different", "_different", defArgs s_diff, defBody s_diff, defScope s_diff, [], []⟩,
  ⟨("_check_told", none), "_check_told", "_check_told", defArgs s_checkT, defBody s_checkT, defScope s_checkT, [], []⟩,
  ⟨("_check_tables", none), "_check_tables", "_check_tables", defArgs s_checkB, defBody s_checkB, defScope s_checkB, [], []⟩,
  ⟨("_check_kept", none), "_check_kept", "_check_kept", defArgs s_checkK, defBody s_checkK, defScope s_checkK, [], []⟩,
  ⟨("_law_read", none), "_law_read", "_law_read", defArgs s_read, defBody s_read, defScope s_read, [], []⟩]
def fnB : List He.DefD := [⟨("_law_source", none), "_law_source", "_law_source", defArgs s_source, defBody s_source, defScope s_source, [], []⟩,
  ⟨("_law_draw", none), "_law_draw", "_law_draw", defArgs s_draw, defBody s_draw, defScope s_draw, [], []⟩,
  ⟨("_law_size", none), "_law_size", "_law_size", defArgs s_size, defBody s_size, defScope s_size, [], []⟩,
  ⟨("_law_back", none), "_law_back", "_law_back", defArgs s_lback, defBody s_lback, defScope s_lback, [], []⟩,
  ⟨("_law_risings", none), "_law_risings", "_law_risings", defArgs s_ris, defBody s_ris, defScope s_ris, [], []⟩,
  ⟨("_law_is_integer", none), "_law_is_integer", "_law_is_integer", defArgs s_isint, defBody s_isint, defScope s_isint, [], []⟩,
  ⟨("_law_same_steps", none), "_law_same_steps", "_law_same_steps", defArgs s_same, defBody s_same, defScope s_same, [], []⟩,
  ⟨("_law_rounds", none), "_law_rounds", "_law_rounds", defArgs s_rounds, defBody s_rounds, defScope s_rounds, [], []⟩,
  ⟨("_law_pair", none), "_law_pair", "_law_pair", defArgs s_pair, defBody s_pair, defScope s_pair, [], []⟩,
  ⟨("_law_short", none), "_law_short", "_law_short", defArgs s_short, defBody s_short, defScope s_short, [], []⟩,
  ⟨("_law_upward", none), "_law_upward", "_law_upward", defArgs s_up, defBody s_up, defScope s_up, [], []⟩,
  ⟨("_law_downward", none), "_law_downward", "_law_downward", defArgs s_dn, defBody s_dn, defScope s_dn, [], []⟩,
  ⟨("_law_numbers", none), "_law_numbers", "_law_numbers", defArgs s_nums, defBody s_nums, defScope s_nums, [], []⟩,
  ⟨("law", none), "law", "law", defArgs s_law, defBody s_law, defScope s_law, [], []⟩]
def fnC : List He.DefD := [⟨("Facts", some "__init__"), "__init__", "Facts.__init__", defArgs s_finit, defBody s_finit, defScope s_finit, [], [("paired", .str "")]⟩,
  ⟨("Facts", some "dial_list"), "dial_list", "Facts.dial_list", defArgs s_fdials, defBody s_fdials, defScope s_fdials, [], []⟩,
  ⟨("Facts", some "__iter__"), "__iter__", "Facts.__iter__", defArgs s_fiter, defBody s_fiter, defScope s_fiter, [], []⟩,
  ⟨("World", some "__init__"), "__init__", "World.__init__", defArgs s_winit, defBody s_winit, defScope s_winit, [.non], []⟩,
  ⟨("World", some "table_of"), "table_of", "World.table_of", defArgs s_table_of, defBody s_table_of, defScope s_table_of, [], []⟩,
  ⟨("World", some "_shown"), "_shown", "World._shown", defArgs s_shown, defBody s_shown, defScope s_shown, [], []⟩,
  ⟨("World", some "head_table"), "head_table", "World.head_table", defArgs s_headT, defBody s_headT, defScope s_headT, [], []⟩]
def fnX : List He.DefD := fnA ++ (fnB ++ fnC)
def dfP : He.DefD := ⟨("Facts", some "paired"), "paired", "Facts.paired", defArgs s_paired, defBody s_paired, defScope s_paired, [], []⟩
def dfL : He.DefD := ⟨("Facts", some "listed"), "listed", "Facts.listed", defArgs s_listed, defBody s_listed, defScope s_listed, [.str ""], []⟩
abbrev AlZ : Type := He.AlD × (He.FnW × He.FnW)
def okX (K : PySem.W.Frag) : Bool := propB K "Facts" "paired" && (statB K "Facts" "listed" && (readB K "Facts" && (conB K "Facts" "MOST" 24 && (readB K "World" && (conB K "World" "MOST" 60 && (okAt K (inA K "Facts" "paired" "property") dfP && okAt K (inA K "Facts" "listed" "staticmethod") dfL))))))
def obsX (K : PySem.W.Frag) : AlZ := ((okX K && (He.obsD faX fnX K).1, (He.obsD faX fnX K).2), (fnAt K (inA K "Facts" "paired" "property"), fnAt K (inA K "Facts" "listed" "staticmethod")))
def valX : AlZ := (He.valD fnX, (dfP.val, dfL.val))
structure SaysX (K : PySem.W.Frag) : Prop where
  ok : okX K = true
  says : He.SaysD faX fnX K
  p : fnAt K (inA K "Facts" "paired" "property") = dfP.val
  l : fnAt K (inA K "Facts" "listed" "staticmethod") = dfL.val
theorem says_of {K : PySem.W.Frag} (e : obsX K = valX) : SaysX K := by
  have e1 : (okX K && (He.obsD faX fnX K).1) = true := congrArg (fun z : AlZ => z.1.1) e
  have e2 : (He.obsD faX fnX K).2 = (He.valD fnX).2 := congrArg (fun z : AlZ => z.1.2) e
  rw [Bool.and_eq_true] at e1
  exact ⟨e1.1, Prod.ext e1.2 e2, congrArg (fun z : AlZ => z.2.1) e, congrArg (fun z : AlZ => z.2.2) e⟩
def hookX (as : List Addr) : PySem.W.Hook where
  α := AlZ
  obs := fun s => obsX (He.frG s.heap.get? as)
  val := fun _ => valX
  says := fun _ h => ∃ K : PySem.W.Frag, K.In h ∧ SaysX K
  of := fun _ _ e => ⟨_, He.frG_in, says_of e⟩
  keeps := fun _ _ _ ⟨K, hK, c⟩ k => ⟨K, PySem.W.Frag.In.keeps hK k, c⟩
def obX (as : List Addr) (s : PySem.W.SharedT) : AlZ := obsX (He.frG (HandSHeadRun.getT s) as)
theorem obX_eq (as : List Addr) (s : PySem.W.SharedT) : obX as s = (hookX as).obs s.abs := by
  have e : HandSHeadRun.getT s = s.abs.heap.get? := funext fun a => HandSHeadRun.getT_eq s a
  show obsX (He.frG (HandSHeadRun.getT s) as) = obsX (He.frG s.abs.heap.get? as)
  rw [e]
theorem law_binds {kV doc pm cdv ct : Value} {an : Option Addr} (s : Shared) (u : Value) : BindsTo s (PySem.W.fnOf "law" "law" (defArgs s_law) (defBody s_law) (defScope s_law) .none kV doc pm an cdv ct) ⟨[u], []⟩ [("_law_script", u)] := .of_eq rfl
theorem walk_ofW {l : PySem.W.OpenLaw} {n k : Nat} {q : Program} {loose : List PySem.Str} {XP : (PySem.Str → Option Value) → Heap → Prop} {YP : World → Heap → Prop} {d : DefRec} {CX : World → CXT} {x : PySem.Str}
    (h1 : l.most = some n) (h2 : n ≤ sizeLine) (h3 : d.params.defaults = []) (h4 : Room k callerA)
    (F : ∀ (w : World) (mg : PySem.Str → Option Value) (fa : Addr) (h : Heap), YP w h → h.Ns mainGlobals mg → mg d.name = some (.ref fa) →
      ∃ (K : PySem.W.Frag) (fd : FuncData) (sp : Sp), K.In h ∧ (∀ (s : Shared) (u : Value), BindsTo s fd ⟨[u], []⟩ [(x, u)]) ∧
        (∀ (H : Hp) (a : Addr) (ns : List Int), ns.length ≤ n → Only H → SqL K H a (ns.map V.int) → sp [.ref a] H (fun v _ => v = .bl true) fun _ _ _ => False) ∧
        ∀ base : Heap, K.In base → base.Ns mainGlobals mg → FnOk l.prog w K mg base (CX w) k fa fd [x] sp)
    (h5 : ∀ (w : World) (H : Hp) (s : Shared) (e : Value) (s' : Shared), CX w [] H s (fun _ _ _ => False) e s' → False) :
    PySem.W.WalkO q loose XP YP l.row.toRowW d [] (fun f vs => PySem.call f vs) := by
  refine Att.attach_call h1 h3 fun w sA sB mg mb fa ob pm cv dc ad vs zs gr yy r1 r2 r3 r4 r5 r6 r7 r8 => ?_
  obtain ⟨K, fd, sp, c1, c2, c3, c4⟩ := F w mg fa _ yy gr.T.g r4
  exact law_call c1 gr.T.g gr.T.b gr.T.builtins gr.T.nolimit r8 r5 r6 (Nat.le_trans r7 h2) h4 c4 c2 (fun H hO hS => c3 H ad zs r7 hO hS) fun H e s' => h5 w H sB e s'
theorem facts {P : Program} {w : World} {K : PySem.W.Frag} {h : Heap} {mg : PySem.Str → Option Value} {f : Addr} (X : K.In h) (G : h.Ns mainGlobals mg) (hfa : mg ("law" : PySem.Str) = some (.ref f)) (c : SaysX K) :
    ∃ fd : FuncData, (∀ (s : Shared) (u : Value), BindsTo s fd ⟨[u], []⟩ [("_law_script", u)]) ∧ ∀ base : Heap, K.In base → base.Ns mainGlobals mg → FnOk P w K mg base (L2.CX P w) 8 f fd ["_law_script"] (spLaw K) := by
  have o1 := c.ok
  unfold okX at o1
  simp only [Bool.and_eq_true] at o1
  obtain ⟨cp, cl, cr, cm, cR, cM, ap, al⟩ := o1
  obtain ⟨tF, vF⟩ := conB_ok cm
  obtain ⟨tW, vW⟩ := conB_ok cM
  obtain ⟨d0, D0⟩ := dat_of (mg := mg) (n := "is_small") (st := s_is_small) (ps := ["text"]) X G (c.says.fact 0 rfl) (c.says.def_ 0 rfl) fun _ _ _ _ _ _ us hl => match us, hl with | [_], _ => rfl
  obtain ⟨d1, D1⟩ := dat_of (mg := mg) (n := "check_steps") (st := s_check_steps) (ps := ["many", "most"]) X G (c.says.fact 1 rfl) (c.says.def_ 1 rfl) fun _ _ _ _ _ _ us hl => match us, hl with | [_, _], _ => rfl
  obtain ⟨d2, D2⟩ := dat_of (mg := mg) (n := "check_places") (st := s_checkP) (ps := ["places", "steps"]) X G (c.says.fact 2 rfl) (c.says.def_ 2 rfl) fun _ _ _ _ _ _ us hl => match us, hl with | [_, _], _ => rfl
  obtain ⟨d3, D3⟩ := dat_of (mg := mg) (n := "rising") (st := s_rising) (ps := ["table"]) X G (c.says.fact 3 rfl) (c.says.def_ 3 rfl) fun _ _ _ _ _ _ us hl => match us, hl with | [_], _ => rfl
  obtain ⟨d4, D4⟩ := dat_of (mg := mg) (n := "still_table") (st := s_still) (ps := ["steps"]) X G (c.says.fact 4 rfl) (c.says.def_ 4 rfl) fun _ _ _ _ _ _ us hl => match us, hl with | [_], _ => rfl
  obtain ⟨d5, D5⟩ := dat_of (mg := mg) (n := "threshold") (st := s_thr) (ps := ["table", "least"]) X G (c.says.fact 5 rfl) (c.says.def_ 5 rfl) fun _ _ _ _ _ _ us hl => match us, hl with | [_, _], _ => rfl
  obtain ⟨d6, D6⟩ := dat_of (mg := mg) (n := "back_table") (st := s_back) (ps := ["table"]) X G (c.says.fact 6 rfl) (c.says.def_ 6 rfl) fun _ _ _ _ _ _ us hl => match us, hl with | [_], _ => rfl
  obtain ⟨d7, D7⟩ := dat_of (mg := mg) (n := "put_on") (st := s_put_on) (ps := ["outer", "inner"]) X G (c.says.fact 7 rfl) (c.says.def_ 7 rfl) fun _ _ _ _ _ _ us hl => match us, hl with | [_, _], _ => rfl
  obtain ⟨d8, D8⟩ := dat_of (mg := mg) (n := "walk_tables") (st := s_walk) (ps := ["steps"]) X G (c.says.fact 8 rfl) (c.says.def_ 8 rfl) fun _ _ _ _ _ _ us hl => match us, hl with | [_], _ => rfl
  obtain ⟨d9, D9⟩ := dat_of (mg := mg) (n := "told_facts") (st := s_told) (ps := ["facts"]) X G (c.says.fact 9 rfl) (c.says.def_ 9 rfl) fun _ _ _ _ _ _ us hl => match us, hl with | [_], _ => rfl
  obtain ⟨d10, D10⟩ := dat_of (mg := mg) (n := "_different") (st := s_diff) (ps := ["pairs"]) X G (c.says.fact 10 rfl) (c.says.def_ 10 rfl) fun _ _ _ _ _ _ us hl => match us, hl with | [_], _ => rfl
  obtain ⟨d11, D11⟩ := dat_of (mg := mg) (n := "_check_told") (st := s_checkT) (ps := ["pairs", "paired", "most"]) X G (c.says.fact 11 rfl) (c.says.def_ 11 rfl) fun _ _ _ _ _ _ us hl => match us, hl with | [_, _, _], _ => rfl
  obtain ⟨d12, D12⟩ := dat_of (mg := mg) (n := "_check_tables") (st := s_checkB) (ps := ["tables", "steps"]) X G (c.says.fact 12 rfl) (c.says.def_ 12 rfl) fun _ _ _ _ _ _ us hl => match us, hl with | [_, _], _ => rfl
  obtain ⟨d13, D13⟩ := dat_of (mg := mg) (n := "_check_kept") (st := s_checkK) (ps := ["tables", "steps", "facts"]) X G (c.says.fact 13 rfl) (c.says.def_ 13 rfl) fun _ _ _ _ _ _ us hl => match us, hl with | [_, _, _], _ => rfl
  obtain ⟨d14, D14⟩ := dat_of (mg := mg) (n := "_law_read") (st := s_read) (ps := ["_law_script", "_law_k"]) X G (c.says.fact 14 rfl) (c.says.def_ 14 rfl) fun _ _ _ _ _ _ us hl => match us, hl with | [_, _], _ => rfl
  obtain ⟨d15, D15⟩ := dat_of (mg := mg) (n := "_law_source") (st := s_source) (ps := ["_law_script", "_law_k"]) X G (c.says.fact 15 rfl) (c.says.def_ 15 rfl) fun _ _ _ _ _ _ us hl => match us, hl with | [_, _], _ => rfl
  obtain ⟨d16, D16⟩ := dat_of (mg := mg) (n := "_law_draw") (st := s_draw) (ps := ["_law_source_here", "_law_many"]) X G (c.says.fact 16 rfl) (c.says.def_ 16 rfl) fun _ _ _ _ _ _ us hl => match us, hl with | [_, _], _ => rfl
  obtain ⟨d17, D17⟩ := dat_of (mg := mg) (n := "_law_size") (st := s_size) (ps := ["_law_source_here", "_law_usual", "_law_most"]) X G (c.says.fact 17 rfl) (c.says.def_ 17 rfl) fun _ _ _ _ _ _ us hl => match us, hl with | [_, _, _], _ => rfl
  obtain ⟨d18, D18⟩ := dat_of (mg := mg) (n := "_law_back") (st := s_lback) (ps := ["_law_table"]) X G (c.says.fact 18 rfl) (c.says.def_ 18 rfl) fun _ _ _ _ _ _ us hl => match us, hl with | [_], _ => rfl
  obtain ⟨d19, D19⟩ := dat_of (mg := mg) (n := "_law_risings") (st := s_ris) (ps := ["_law_size_here"]) X G (c.says.fact 19 rfl) (c.says.def_ 19 rfl) fun _ _ _ _ _ _ us hl => match us, hl with | [_], _ => rfl
  obtain ⟨d20, D20⟩ := dat_of (mg := mg) (n := "_law_is_integer") (st := s_isint) (ps := ["_law_actual"]) X G (c.says.fact 20 rfl) (c.says.def_ 20 rfl) fun _ _ _ _ _ _ us hl => match us, hl with | [_], _ => rfl
  obtain ⟨d21, D21⟩ := dat_of (mg := mg) (n := "_law_same_steps") (st := s_same) (ps := ["_law_actual", "_law_due"]) X G (c.says.fact 21 rfl) (c.says.def_ 21 rfl) fun _ _ _ _ _ _ us hl => match us, hl with | [_, _], _ => rfl
  obtain ⟨d22, D22⟩ := dat_of (mg := mg) (n := "_law_rounds") (st := s_rounds) (ps := ["_law_table", "_law_upward_here"]) X G (c.says.fact 22 rfl) (c.says.def_ 22 rfl) fun _ _ _ _ _ _ us hl => match us, hl with | [_, _], _ => rfl
  obtain ⟨d23, D23⟩ := dat_of (mg := mg) (n := "_law_pair") (st := s_pair) (ps := ["_law_table", "_law_dial"]) X G (c.says.fact 23 rfl) (c.says.def_ 23 rfl) fun _ _ _ _ _ _ us hl => match us, hl with | [_, _], _ => rfl
  obtain ⟨d24, D24⟩ := dat_of (mg := mg) (n := "_law_short") (st := s_short) (ps := ["_law_size_here", "_law_dial"]) X G (c.says.fact 24 rfl) (c.says.def_ 24 rfl) fun _ _ _ _ _ _ us hl => match us, hl with | [_, _], _ => rfl
  obtain ⟨d25, D25⟩ := dat_of (mg := mg) (n := "_law_upward") (st := s_up) (ps := ["_law_marked", "_law_steps"]) X G (c.says.fact 25 rfl) (c.says.def_ 25 rfl) fun _ _ _ _ _ _ us hl => match us, hl with | [_, _], _ => rfl
  obtain ⟨d26, D26⟩ := dat_of (mg := mg) (n := "_law_downward") (st := s_dn) (ps := ["_law_marked", "_law_steps"]) X G (c.says.fact 26 rfl) (c.says.def_ 26 rfl) fun _ _ _ _ _ _ us hl => match us, hl with | [_, _], _ => rfl
  obtain ⟨d27, D27⟩ := dat_of (mg := mg) (n := "_law_numbers") (st := s_nums) (ps := ["_law_table"]) X G (c.says.fact 27 rfl) (c.says.def_ 27 rfl) fun _ _ _ _ _ _ us hl => match us, hl with | [_], _ => rfl
  obtain ⟨d28, D28⟩ := dat_of (mg := mg) (n := "law") (st := s_law) (ps := ["_law_script"]) X G (c.says.fact 28 rfl) (c.says.def_ 28 rfl) fun _ _ _ _ _ _ us hl => match us, hl with | [_], _ => rfl
  have W : Wd mg := ⟨He.str_ok X G (c.says.fact 29 rfl), He.int_ok X G (c.says.fact 30 rfl), He.free_ok X G (c.says.fact 31 rfl), He.free_ok X G (c.says.fact 32 rfl), He.free_ok X G (c.says.fact 33 rfl), He.free_ok X G (c.says.fact 34 rfl), He.free_ok X G (c.says.fact 35 rfl), He.free_ok X G (c.says.fact 36 rfl), He.free_ok X G (c.says.fact 37 rfl), He.free_ok X G (c.says.fact 38 rfl), He.free_ok X G (c.says.fact 39 rfl), He.free_ok X G (c.says.fact 40 rfl), He.free_ok X G (c.says.fact 41 rfl), He.free_ok X G (c.says.fact 42 rfl), He.free_ok X G (c.says.fact 43 rfl), He.free_ok X G (c.says.fact 44 rfl)⟩
  have L : Lb mg := ⟨He.free_ok X G (c.says.fact 45 rfl), He.free_ok X G (c.says.fact 46 rfl), He.free_ok X G (c.says.fact 47 rfl), He.free_ok X G (c.says.fact 48 rfl), He.free_ok X G (c.says.fact 49 rfl)⟩
  have FC : FCls K mg (cA K "Facts") := ⟨He.cls_ok (c.says.fact 50 rfl), He.noat_ok (c.says.fact 51 rfl), He.noat_ok (c.says.fact 52 rfl), He.noat_ok (c.says.fact 53 rfl), He.glo_ok X G (c.says.fact 54 rfl), mcT, tF, readB_ok cr, vF⟩
  have mD := He.meth_ok (c.says.fact 55 rfl)
  have mI := He.meth_ok (c.says.fact 56 rfl)
  have kF := He.mkr_ok (c.says.fact 57 rfl)
  have WC : WCls K mg (cA K "World") := ⟨He.cls_ok (c.says.fact 58 rfl), He.noat_ok (c.says.fact 59 rfl), He.noat_ok (c.says.fact 60 rfl), He.noat_ok (c.says.fact 61 rfl), He.noat_ok (c.says.fact 62 rfl), He.noat_ok (c.says.fact 63 rfl), He.glo_ok X G (c.says.fact 64 rfl), mcT, tW, readB_ok cR, vW⟩
  have mS := He.meth_ok (c.says.fact 65 rfl)
  have mT := He.meth_ok (c.says.fact 66 rfl)
  have mH := He.meth_ok (c.says.fact 67 rfl)
  have kW := He.mkr_ok (c.says.fact 68 rfl)
  obtain ⟨dI, EI⟩ := c.says.def_ 29 rfl
  obtain ⟨dD, ED⟩ := datm_of (n := "dial_list") (q := "Facts.dial_list") (st := s_fdials) (ps := ["self"]) (c.says.def_ 30 rfl) fun _ _ _ _ _ _ us hl => match us, hl with | [_], _ => rfl
  obtain ⟨dt, Et⟩ := datm_of (n := "__iter__") (q := "Facts.__iter__") (st := s_fiter) (ps := ["self"]) (c.says.def_ 31 rfl) fun _ _ _ _ _ _ us hl => match us, hl with | [_], _ => rfl
  obtain ⟨dW, EW⟩ := datd_of (n := "__init__") (q := "World.__init__") (st := s_winit) (ps := pWI) (v := .non) (c.says.def_ 32 rfl) fun _ _ _ _ _ _ _ us _ hl => match us, hl with | [_, _, _, _, _], _ => ⟨_, rfl, rfl⟩
  obtain ⟨dT, ET⟩ := datm_of (n := "table_of") (q := "World.table_of") (st := s_table_of) (ps := ["self", "letter"]) (c.says.def_ 33 rfl) fun _ _ _ _ _ _ us hl => match us, hl with | [_, _], _ => rfl
  obtain ⟨dS, ES⟩ := datm_of (n := "_shown") (q := "World._shown") (st := s_shown) (ps := ["self", "letter"]) (c.says.def_ 34 rfl) fun _ _ _ _ _ _ us hl => match us, hl with | [_, _], _ => rfl
  obtain ⟨dH, EH⟩ := datm_of (n := "head_table") (q := "World.head_table") (st := s_headT) (ps := ["self", "head"]) (c.says.def_ 35 rfl) fun _ _ _ _ _ _ us hl => match us, hl with | [_, _], _ => rfl
  obtain ⟨dP, EP⟩ := datm_of (n := "paired") (q := "Facts.paired") (st := s_paired) (ps := ["self"]) (fnAt_ok c.p ap) fun _ _ _ _ _ _ us hl => match us, hl with | [_], _ => rfl
  obtain ⟨dL, EL⟩ := datd_of (n := "listed") (q := "Facts.listed") (st := s_listed) (ps := ["pairs", "paired"]) (v := .str "") (fnAt_ok c.l al) fun _ _ _ _ _ _ _ us _ hl => match us, hl with | [_, _], _ => ⟨_, rfl, rfl⟩
  cases hfa.symm.trans D28.g
  refine ⟨d28, ?_, fun base _ _ => all_law W L FC WC ⟨mD, propB_ok cp, mI.at_, mI.fn⟩ kF kW mS mT mH (readB_ok cr) (statB_ok cl) EI EL EP ED Et EW ET ES EH D0 D1 D2 D3 D4 D5 D6 D7 D8 D9 D10 D11 D12 D13 D14 D15 D16 D17 D18 D19 D20 D21 D22 D23 D24 D25 D26 D27 D28⟩
  obtain ⟨⟨oc, od, kV, doc, pm, an, cdv, ct, osl, rfl, _, _⟩, _⟩ := D28.F
  exact law_binds
end Z
end
/-! Z25 -/
set_option linter.all false
set_option maxRecDepth 100000
set_option maxHeartbeats 4000000
noncomputable section
namespace Z
open PySem PySem.Spec PyProof.Rows L2 PySem.Froz Evl TS GenW

def loose0 : List PySem.Str := ["_wall", "DialError", "BadWord", "BadLetter", "BadFact", "MixedFact", "BadSteps", "BadPlace", "BadTable", "BrokenFact", "NotGrounded", "NoPlace", "NoTable", "Unlike", "TooLarge", "SMALL_LETTERS", "CAPITAL_LETTERS", "POINT_LETTERS"]
def loose1 : List PySem.Str := ["MOST_LETTERS", "is_small", "is_capital", "is_point", "is_dial_letter", "is_head", "is_word", "check_steps", "check_places", "MOST_WALKED", "rising", "still_table", "threshold", "back_table", "put_on", "lesser_table", "greater_table", "walk_tables"]
def loose2 : List PySem.Str := ["is_part", "told_facts", "_different", "_check_told", "_spread", "Facts", "_check_tables", "_check_kept", "_check_like", "place_dict", "table_dict", "World", "_law_read", "_law_source", "_law_draw", "_law_size", "_law_back", "_law_risings"]
def loose3 : List PySem.Str := ["_law_is_integer", "_law_same_steps", "_law_rounds", "_law_pair", "_law_short", "_law_upward", "_law_downward", "_law_numbers"]
def looseX : List PySem.Str := loose0 ++ loose1 ++ loose2 ++ loose3
def ad0 : List Addr := [3, 288, 328, 335, 340, 347, 354, 359, 364, 379, 393, 400, 407, 540, 547, 696, 703, 710, 717, 724, 731, 738, 745, 752, 757, 762, 769, 776, 781, 786]
def ad1 : List Addr := [529, 685, 427, 437, 446, 472, 519, 577, 632, 639, 644, 445, 435, 528, 684, 287, 327, 334, 339, 346, 353, 358, 363, 378, 392, 399, 406, 539, 546, 695]
def ad2 : List Addr := [702, 709, 716, 723, 730, 737, 744, 751, 756, 761, 768, 775, 780, 785, 426, 422, 471, 518, 576, 572, 631, 638, 643, 444, 434, 428, 2]
def adX : List Addr := ad0 ++ ad1 ++ ad2
abbrev RX : PySem.W.OpenRow := PySem.W.OpenLaw.row PySem.Challenge.rw_unseendials_k86_pairs_make_roundings
end Z
end
/-! Z26 -/
set_option linter.all false
set_option maxRecDepth 100000
set_option maxHeartbeats 0
namespace Z
open PySem PySem.Spec PyProof.Rows L2
theorem runX (w : World) : HandSHeadRun.RunEq RX (PySem.W.view RX.prog [69]) (hookX adX) (obX adX) 12000 looseX w := by
  intro os
  kernel_rfl
end Z
open PySem PySem.W PySem.Calls PyProof.Rows
theorem PySem.Challenge.cw_unseendials_k86_pairs_make_roundings_holds : PySem.Challenge.rw_unseendials_k86_pairs_make_roundings.Holds := by
  w_on; o_law
  refine HandSHeadRun.head_any (r := Z.RX) (q := view Z.RX.prog [69]) (H := Z.hookX Z.adX) (ob := Z.obX Z.adX) (M := 12000) (loose := Z.looseX) (d := HandSHeadRun.topDef Z.RX.prog 69) (kwd := []) (Z.obX_eq Z.adX)
    (by kernel_rfl) (fun s => by kernel_rfl) Z.runX (by kernel_rfl) (by kernel_rfl) (by kernel_rfl) (by rfl) (by first | assumption | decide +kernel) (by decide +kernel) ⟨rfl, rfl, rfl, rfl, rfl, by decide +kernel⟩ ?hw ?hc
  case hw => w_witness2
  case hc =>
    refine Z.walk_ofW (l := PySem.Challenge.rw_unseendials_k86_pairs_make_roundings) (n := 63) (k := 8) (x := "_law_script") (CX := fun w => L2.CX PySem.Challenge.rw_unseendials_k86_pairs_make_roundings.prog w) rfl (by decide) (by kernel_rfl) ⟨rfl, by decide, by decide⟩ ?F (fun _ _ _ _ _ ⟨_, _, _, _, _, _, _, _, _, _, _, _, z⟩ => z)
    intro w mg fa h Y G hmg0
    obtain ⟨K, KX, c⟩ := Y
    have hmg : mg ("law" : PySem.Str) = some (.ref fa) := by
      have e : (HandSHeadRun.topDef Z.RX.prog 69).name = ("law" : PySem.Str) := by kernel_rfl
      rw [← e]
      exact hmg0
    obtain ⟨fd, hb, hF⟩ := Z.facts (P := PySem.Challenge.rw_unseendials_k86_pairs_make_roundings.prog) (w := w) KX G hmg c
    exact ⟨K, fd, Z.spLaw K, KX, hb, fun H a ns hl _ hS => ⟨a, ns, rfl, hS, hl, fun _ _ => rfl⟩, hF⟩
