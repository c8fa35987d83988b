import PyProof.Rows.All
import Wide.All
import OpenK.AllK
import Wide.FinOn
import HandS.ForMost
import HandS.SetTxt0
import HandS.Set
import HandS.Strs
import HandS.SetBool
import PyProof.Rows.SortShellAny
import KE.KSortKeySt
import HandS.RaiseMore
import HandS.SortKw
import KE.GoesComp
import HandS.Exc
import KE.GoesRaise
import HandS.Evl
import HandS.Text
import HandS.ExcInit
import HandS.ExcField
import HandS.ExcIs
import HandS.IsInst
import KE.KExcIs
import HandS.GenList
import HandS.GenYield
import HandS.Star
import HandS.MakeKw
import HandS.MakeKwOnly
import HandS.Property
import HandS.ClsMeth
import HandS.IterVal
import HandS.SetKeys
import HandS.DictComp
import HandS.Rev
import HandS.ForSpec
import HandS.SortInts
import HandS.Steps
import HandS.Wide
import HandS.Deep
import HandS.NoneIn
import HandS.Style
import HandS.Conv
import HandS.Iter
import HandS.Defaults
import HandS.WordsExc
import HandS.ExcOwn
import KE.KStateDown
import HandS.Head0
import HandS.Head1
import HandS.Head2
import HandS.HeadHook1
import HandS.HeadHook2
import PySem.Challenge.RW_unseendials_k08_back_tables
set_option Elab.async false
/-! TS -/
set_option linter.all false
set_option maxRecDepth 100000
set_option maxHeartbeats 4000000
noncomputable section
namespace TS
open PySem PySem.Spec PyProof.Rows L2 PySem.Froz

/-- a table that can be walked -/
structure WalkT (w : World) (t : SetTable) : Prop where
  ris : Ris t.place.toList
  led : w.params.followText "set-order" = true ∨ t.led = true

theorem walk_off {w : World} {t : SetTable} (g : WalkT w t) : WalkT w (if t.plain = true then { t with plain := false } else t) := by
  by_cases c : t.plain = true
  · rw [if_pos c]; exact ⟨g.ris, g.led⟩
  · rw [if_neg c]; exact g

theorem walk_tail {w : World} {ep : Nat} {es : Array (Int × Value)} {t : SetTable} {d : Bool} (g : WalkT w t) : WalkT w (tailTx ep es t d).2.2 := by
  unfold tailTx
  by_cases c : (!d && t.tooFull) = true
  · rw [if_pos c]
    refine ⟨relayAll_ris t es _, g.led.imp id fun z => ?_⟩
    show (relayAll t es _).2.1.led = true
    rw [relayAll_led]; exact z
  · rw [if_neg c]; exact g

theorem walk_add {w : World} {D : SD} (h : Int) (v : Value) (g : WalkT w D.2.2) : WalkT w (addTx h v D).2.2 := by
  unfold addTx
  refine walk_tail (walk_off ⟨layNew_ris D.2.2 D.1 h v g.ris, g.led.imp id fun z => ?_⟩)
  rw [layNew_led]; exact z

/-- the set of texts at a; l: its members, each once -/
def SetS (P : Program) (w : World) (a : Addr) (l : List PySem.Str) : HO := .ext fun h => ∃ D : SD, h.get? a = some (sObj "set" D) ∧ TxOk P w D l ∧ WalkT w D.2.2

theorem setS_new {P : Program} {w : World} {H : Hp} {h : Heap} {a : Addr} {l : List PySem.Str} {D : SD} (e : h.get? a = some (sObj "set" D)) (F : TxOk P w D l) (g : WalkT w D.2.2) : ObjOk P w H h a (SetS P w a l) :=
  ⟨⟨D, e, F, g⟩, ⟨_, e⟩, fun _ _ ⟨D', e', F', g'⟩ k => ⟨D', k _ e', F', g'⟩⟩

section
variable {X : Cx} {pins : List (Addr × Obj)} {σ : L2.St} {H : Hp} {s : Shared} {A : Around} {E : Value → Shared → Prop} {P : Program} {w : World}

theorem setS_get {a : Addr} {l : List PySem.Str} (I : Inv X pins σ H s) (ha : H a = some (SetS X.prog X.w a l)) : ∃ D : SD, s.heap.get? a = some (sObj "set" D) ∧ TxOk X.prog X.w D l ∧ WalkT X.w D.2.2 := (I.hok a _ ha).1

/-- a text that is in already -/
theorem add_in {a : Addr} {T : String} {D : SD} {l : List PySem.Str} {k : PySem.Str} {u : Tok} {Q : Bool → Shared → Prop} (ho : s.heap.get? a = some (sObj T D)) (F : TxOk P w D l) (hk : k ∈ l) (hb : l.length < scanBound)
    (h : Q false s) : wpAny (model P w) A (setAddHashed a (.str k u) (hashStr w k)) Q E s := by
  obtain ⟨es, ep, t⟩ := D
  have dat : (sObj T (es, ep, t)).data = .set es ep t := rfl
  have fit : t.fits es.size = true := F.fit
  have els : ElemsOf (strKind P w) es.toList := F.el
  have size : es.size < scanBound := by have z : es.size = l.length := F.sz; omega
  have isk : (strKind P w).is k (.str k u) = true := is_str k u
  obtain ⟨e, he, q⟩ := (F.mem k).mp hk
  unfold setAddHashed setAddHashedIn
  refine wpAny_holding (wpAny_bind (wpAny_setState_of ho dat fit ?_))
  dsimp only
  rw [byScan_of rfl size els]
  simp only [↓reduceIte]
  unfold setAddByScan
  refine wpAny_bind (wpAny_bind (wpAny_rule (wpAny_bind (wpAny_setScan_of (knd := strKind P w) (k := k) isk ho dat fit els ?_))))
  cases hr : List.findIdx? (fun e => (strKind P w).is k e.2) es.toList with
  | none =>
    have c := List.findIdx?_eq_none_iff.mp hr e he
    rw [q] at c; cases c
  | some j =>
    dsimp only
    exact wpAny_pure (wpAny_pure h)

theorem upd_back {h : Heap} {a b : Addr} {o : Obj} (hb : b ≠ a) : (h.update a (fun _ => o)).get? b = h.get? b := Heap.get?_update_other _ _ (Ne.symm hb)

/-- s.add(k) as the model does it behind the hash -/
theorem addS {a : Addr} {l : List PySem.Str} {k : PySem.Str} {u : Tok} {Q : Bool → Shared → Prop} (I : Inv X pins σ H s) (ha : H a = some (SetS X.prog X.w a l)) (hb : l.length + 1 < scanBound)
    (h : ∀ b s', Inv X pins σ (upd H a (SetS X.prog X.w a (if k ∈ l then l else k :: l))) s' → Q b s') : wpAny (model X.prog X.w) A (setAddHashed a (.str k u) (hashStr X.w k)) Q E s := by
  obtain ⟨D, hD, F, g⟩ := setS_get I ha
  by_cases hk : k ∈ l
  · refine add_in hD F hk (by omega) (h _ _ ?_)
    rw [if_pos hk]
    have e : upd H a (SetS X.prog X.w a l) = H := by
      funext b
      by_cases hb : b = a
      · rw [hb, upd_same, ha]
      · rw [upd_ne hb]
    rw [e]; exact I
  · refine add_x hD F hk hb (h _ _ ?_)
    rw [if_neg hk]
    refine I.write (e := a) (t' := s.toks) (by rw [ha]; exact True.intro) (.inl rfl) (fun b o hb e => (upd_back hb).trans e) ⟨_, get_upd _ hD rfl⟩ (setS_new (get_upd _ hD rfl) (add_ok u F) (walk_add _ _ g))
end

end TS
end
/-! TS2 -/
set_option linter.all false
set_option maxRecDepth 100000
set_option maxHeartbeats 4000000
noncomputable section
namespace TS
open PySem PySem.Spec PyProof.Rows L2 PySem.Froz

/-- all texts put into a set, one after another -/
def intoSet (l : List PySem.Str) (xs : List PySem.Str) : List PySem.Str := xs.foldl (fun l k => if k ∈ l then l else k :: l) l
theorem intoSet_mem : ∀ (xs l : List PySem.Str) (k : PySem.Str), k ∈ intoSet l xs ↔ k ∈ l ∨ k ∈ xs
  | [], l, k => by simp [intoSet]
  | x :: xs, l, k => by
    show k ∈ intoSet (if x ∈ l then l else x :: l) xs ↔ _
    rw [intoSet_mem xs]
    by_cases h : x ∈ l
    · rw [if_pos h]
      constructor
      · rintro (z | z)
        · exact .inl z
        · exact .inr (List.mem_cons_of_mem _ z)
      · rintro (z | z)
        · exact .inl z
        · rcases List.mem_cons.mp z with e | z
          · rw [e]; exact .inl h
          · exact .inr z
    · rw [if_neg h]
      simp only [List.mem_cons]
      constructor
      · rintro ((z | z) | z)
        · exact .inr (.inl z)
        · exact .inl z
        · exact .inr (.inr z)
      · rintro (z | z | z)
        · exact .inl (.inr z)
        · exact .inl (.inl z)
        · exact .inr z
theorem intoSet_nodup : ∀ (xs l : List PySem.Str), l.Nodup → (intoSet l xs).Nodup
  | [], l, d => d
  | x :: xs, l, d => by
    show (intoSet (if x ∈ l then l else x :: l) xs).Nodup
    refine intoSet_nodup xs _ ?_
    by_cases h : x ∈ l
    · rw [if_pos h]; exact d
    · rw [if_neg h]; exact List.nodup_cons.mpr ⟨h, d⟩
theorem intoSet_len : ∀ (xs l : List PySem.Str), (intoSet l xs).length ≤ l.length + xs.length
  | [], l => Nat.le_refl _
  | x :: xs, l => by
    have h := intoSet_len xs (if x ∈ l then l else x :: l)
    have e : (if x ∈ l then l else x :: l).length ≤ l.length + 1 := by
      split
      · omega
      · simp
    show (intoSet (if x ∈ l then l else x :: l) xs).length ≤ l.length + (xs.length + 1)
    omega
theorem intoSet_snoc (l xs : List PySem.Str) (k : PySem.Str) : intoSet l (xs ++ [k]) = (if k ∈ intoSet l xs then intoSet l xs else k :: intoSet l xs) := by
  unfold intoSet
  rw [List.foldl_append] <;> rfl

/-- x, whatever it is, hands out the texts xs -/
structure Texts (P : Program) (w : World) (s : Shared) (x : Value) (xs : List PySem.Str) : Prop where
  ex : ∃ T : String, (∀ s' : Shared, (∀ b o, s.heap.get? b = some o → s'.heap.get? b = some o) → s'.TypeIs x T) ∧ isSubtype (.type T) (.type "set") = pure false ∧ isSubtype (.type T) (.type "frozenset") = pure false ∧ (Value.type T == Value.type "dict") = false
  it : ∀ (s1 : Shared) (A : Around) (E : Value → Shared → Prop) (Q : Value → Shared → Prop), (∀ b o, s.heap.get? b = some o → s1.heap.get? b = some o) →
    (∀ (o : Obj) (fp : List Addr) (Pv : Nat → Value → Prop) (St : Nat → Heap → Prop), (∀ A' : Around, A'.handled = none → Walks P w A' s1.heap.objs.size fp [s1.heap.objs.size] xs.length Pv St) →
      (∀ b ∈ fp, b = s1.heap.objs.size ∨ b < s.heap.objs.size) → (∀ i v, Pv i v → ∃ t, v = .str (xs.getD i Str.empty) t) → St 0 (s1.heap.push o) → Q (.ref s1.heap.objs.size) { s1 with heap := s1.heap.push o }) →
    wpAny (model P w) A (pyIter x) Q E s1

theorem sub_ls : isSubtype (.type "list") (.type "set") = pure false := PySem.F.sub_list_set
theorem sub_ts : isSubtype (.type "tuple") (.type "set") = pure false := by rw [isSubtype_type]; kernel_rfl
theorem sub_tf : isSubtype (.type "tuple") (.type "frozenset") = pure false := by rw [isSubtype_type]; kernel_rfl
theorem sub_ss : isSubtype (.type "str") (.type "set") = pure false := by rw [isSubtype_type]; kernel_rfl
theorem sub_sf : isSubtype (.type "str") (.type "frozenset") = pure false := by rw [isSubtype_type]; kernel_rfl

section
variable {P : Program} {w : World} {s : Shared}
theorem texts_list {l : Addr} {items : Array Value} {xs : List PySem.Str} (hl : s.heap.IsList l items) (hx : StrsAre items.toList xs) : Texts P w s (.ref l) xs where
  ex := by
    obtain ⟨o, ho, hc, n, hd⟩ := hl
    exact ⟨"list", fun s' k => ⟨o, k _ _ ho, hc⟩, sub_ls, PySem.F.sub_list_frozenset, by decide⟩
  it := fun s1 A E Q k h => by
    have hsz : items.size = xs.length := by rw [← StrsAre.len_eq hx, Array.length_toList]
    have hl1 : s1.heap.IsList l items := by
      obtain ⟨o, ho, r⟩ := hl
      exact ⟨o, k _ _ ho, r⟩
    obtain ⟨o, ho, hr⟩ := hl
    have hlt : l < s.heap.objs.size := Heap.lt_size ho
    have hne : l ≠ s1.heap.objs.size := Nat.ne_of_lt (Heap.lt_size (k _ _ ho))
    refine wpAny_pyIter_list hl1 (h _ [s1.heap.objs.size, l] (fun i v => items[i]? = some v) (fun i h => h.IsListIter s1.heap.objs.size l i ∧ h.IsList l items) (fun A' hA => by rw [← hsz]; exact Walks.list hA _ l hne items) (fun b hb => ?_) (fun i v hv => SS.strs_at hx i v (by rw [Array.getElem?_toList]; exact hv)) ⟨⟨_, Heap.get?_push_size _ rfl, rfl, rfl⟩, hl1.push _⟩)
    rcases List.mem_cons.mp hb with z | z
    · exact .inl z
    · rw [List.mem_singleton.mp z]; exact .inr hlt
theorem texts_tuple {l : Addr} {items : Array Value} {xs : List PySem.Str} (hl : s.heap.IsTuple l items) (hx : StrsAre items.toList xs) : Texts P w s (.ref l) xs where
  ex := by
    obtain ⟨o, ho, hc, hr⟩ := hl
    exact ⟨"tuple", fun s' k => ⟨o, k _ _ ho, hc⟩, sub_ts, sub_tf, by decide⟩
  it := fun s1 A E Q k h => by
    have hsz : items.size = xs.length := by rw [← StrsAre.len_eq hx, Array.length_toList]
    have hl1 : s1.heap.IsTuple l items := by
      obtain ⟨o, ho, r⟩ := hl
      exact ⟨o, k _ _ ho, r⟩
    obtain ⟨o, ho, hr⟩ := hl
    have hlt : l < s.heap.objs.size := Heap.lt_size ho
    have hne : l ≠ s1.heap.objs.size := Nat.ne_of_lt (Heap.lt_size (k _ _ ho))
    refine wpAny_pyIter_tuple hl1 (h _ [s1.heap.objs.size, l] (fun i v => items[i]? = some v) (fun i h => h.IsTupleIter s1.heap.objs.size l i ∧ h.IsTuple l items) (fun A' hA => by rw [← hsz]; exact Walks.tuple hA _ l hne items) (fun b hb => ?_) (fun i v hv => SS.strs_at hx i v (by rw [Array.getElem?_toList]; exact hv)) ⟨⟨_, Heap.get?_push_size _ rfl, rfl, rfl⟩, hl1.push _⟩)
    rcases List.mem_cons.mp hb with z | z
    · exact .inl z
    · rw [List.mem_singleton.mp z]; exact .inr hlt
/-- the signs of a text -/
def signs (x : PySem.Str) : List PySem.Str := x.cps.toList.map fun c => ⟨#[c]⟩
theorem texts_str {x : PySem.Str} {t : Tok} : Texts P w s (.str x t) (signs x) where
  ex := ⟨"str", fun _ _ => rfl, sub_ss, sub_sf, by decide⟩
  it := fun s1 A E Q k h => by
    have hsz : (signs x).length = x.cps.size := by unfold signs; rw [List.length_map, Array.length_toList]
    refine wpAny_pyIter_str fun o St hW h0 => h o [s1.heap.objs.size] (SignAt x) St (fun A' hA => by rw [hsz]; exact hW A' hA) (fun b hb => .inl (List.mem_singleton.mp hb)) (fun i v hv => ?_) h0
    obtain ⟨c, u, e, rfl⟩ := hv
    refine ⟨u, ?_⟩
    unfold signs
    rw [List.getD_eq_getElem?_getD, List.getElem?_map, Array.getElem?_toList, e] <;> rfl
end

section
variable {P : Program} {w : World} {A : Around} {R : Result → Shared → Prop} {I : Addr} {fp : List Addr} {n : Nat} {Pv : Nat → Value → Prop} {St : Nat → Heap → Prop}
/-- the loop that fills a set from an iterator -/
theorem fill_loop (W : Walks P w A.in1 I fp [I] n Pv St) (a : Addr) (haf : a ∉ fp) (haI : a ≠ I) (xs : List PySem.Str) (hn : xs.length = n) (hv : ∀ i v, Pv i v → ∃ t, v = .str (xs.getD i Str.empty) t) (hb : n + 1 < scanBound) :
    ∀ (k i : Nat) (s : Shared) (D : SD), n - i = k → i ≤ n → St i s.heap → s.heap.get? a = some (sObj "set" D) → TxOk P w D (intoSet [] (xs.take i)) → WalkT w D.2.2 →
      (∀ h' tk D', (∀ b o, b ≠ a → b ≠ I → s.heap.get? b = some o → h'.get? b = some o) → h'.get? a = some (sObj "set" D') → TxOk P w D' (intoSet [] xs) → WalkT w D'.2.2 → R (.ok (.ret .none)) { s with heap := h', toks := tk }) →
      codeAny (model P w) A (.builtin "set.update.loop" ⟨[.ref a, .ref I], []⟩) R s := by
  intro k
  induction k with
  | zero =>
    intro i s D hk hi hst hD F g hR
    obtain rfl : i = n := by omega
    refine codeAny_builtin PyProof.Rows.F.entry_set_update_loop ?_
    rw [Around.under_plainId PyProof.Rows.F.plain_set_update_loop _]
    show wpAny _ A.in1 (pyNext (.ref I) >>= _) _ _ s
    refine wpAny_bind (W.done s _ _ hst fun h' tk kp => ?_)
    show wpAny _ A.in1 (ret Value.none) _ _ _
    rw [← hn, List.take_length] at F
    exact wpAny_pure (hR h' tk D (fun b o _ hI e => kp b o (fun z => hI (List.mem_singleton.mp z)) e) (kp a _ (fun z => haI (List.mem_singleton.mp z)) hD) F g)
  | succ k ih =>
    intro i s D hk hi hst hD F g hR
    have hlt : i < n := by omega
    refine codeAny_builtin PyProof.Rows.F.entry_set_update_loop ?_
    rw [Around.under_plainId PyProof.Rows.F.plain_set_update_loop _]
    show wpAny _ A.in1 (pyNext (.ref I) >>= _) _ _ s
    refine wpAny_bind (W.item i s _ _ hlt hst fun v h1 tk1 hP hst1 kp => ?_)
    obtain ⟨t, rfl⟩ := hv i v hP
    have hD1 : h1.get? a = some (sObj "set" D) := kp a _ (fun z => haI (List.mem_singleton.mp z)) hD
    have tk1' : xs.take (i + 1) = xs.take i ++ [xs.getD i Str.empty] := by
      have hl : i < xs.length := by omega
      rw [List.take_succ, List.getD_eq_getElem?_getD, List.getElem?_eq_getElem hl] <;> rfl
    have len : (intoSet [] (xs.take i)).length ≤ i := by
      have q := intoSet_len (xs.take i) []
      rw [List.length_take] at q
      have z : ([] : List PySem.Str).length = 0 := rfl
      omega
    show wpAny _ A.in1 (holding [Value.str (xs.getD i Str.empty) t] (setAdd a (.str (xs.getD i Str.empty) t)) >>= _) _ _ _
    refine wpAny_bind (wpAny_holding ?_)
    unfold setAdd
    refine wpAny_holding (wpAny_bind ((PySem.strKind P w).pyHash (k := xs.getD i Str.empty) (strKind_is _ _ _ _) ?_))
    have go : ∀ (b : Bool) (h2 : Heap) (D2 : SD), (∀ c o, c ≠ a → h1.get? c = some o → h2.get? c = some o) → h2.get? a = some (sObj "set" D2) → TxOk P w D2 (intoSet [] (xs.take (i + 1))) → WalkT w D2.2.2 →
        wpAny (model P w) A.in1 (again (.builtin "set.update.loop" ⟨[.ref a, .ref I], []⟩)) (fun fin s' => match fin with | .done f => R (.ok f) s' | .again c' => c'.quiet = true ∧ codeAny (model P w) A c' R s') (fun e s' => R (.error e) s') { s with heap := h2, toks := tk1 + 1 } := fun b h2 D2 k2 hD2 F2 g2 => by
      refine wpAny_pure ⟨plainId_quiet PyProof.Rows.F.plain_set_update_loop _, ih (i + 1) _ D2 (by omega) hlt (W.frame _ _ _ hst1 fun c hc o e => k2 c o (fun z => haf (z ▸ hc)) e) hD2 F2 g2 fun h3 tk D3 k3 hD3 F3 g3 => ?_⟩
      exact hR h3 tk D3 (fun c o hca hcI e => k3 c o hca hcI (k2 c o hca (kp c o (fun z => hcI (List.mem_singleton.mp z)) e))) hD3 F3 g3
    have hs : intoSet [] (xs.take (i + 1)) = (if xs.getD i Str.empty ∈ intoSet [] (xs.take i) then intoSet [] (xs.take i) else xs.getD i Str.empty :: intoSet [] (xs.take i)) := by rw [tk1', intoSet_snoc]
    by_cases hm : xs.getD i Str.empty ∈ intoSet [] (xs.take i)
    · rw [if_pos hm] at hs
      exact add_in (s := { s with heap := h1, toks := tk1 + 1 }) hD1 F hm (by omega) (go false h1 D (fun _ _ _ e => e) hD1 (by rw [hs]; exact F) g)
    · rw [if_neg hm] at hs
      exact add_x (s := { s with heap := h1, toks := tk1 + 1 }) hD1 F hm (by omega) (go true _ _ (fun c o hc e => (upd_back hc).trans e) (get_upd _ hD1 rfl) (by rw [hs]; exact add_ok t F) (walk_add _ _ g))
end
end TS
end
/-! TS3 -/
set_option linter.all false
set_option maxRecDepth 100000
set_option maxHeartbeats 4000000
noncomputable section
namespace TS
open PySem PySem.Spec PyProof.Rows L2 PySem.Froz

/-- a new empty set's payload -/
def fresh (w : World) : SD := (#[], 0, .fresh 0 0 (!w.params.followText "set-order"))
theorem fresh_ok (P : Program) (w : World) : TxOk P w (fresh w) [] := TxOk.nil (by rfl)
theorem fresh_walk (w : World) : WalkT w (fresh w).2.2 := ⟨List.Pairwise.nil, by
  show _ ∨ (!w.params.followText "set-order") = true
  cases w.params.followText "set-order"
  · exact .inr rfl
  · exact .inl rfl⟩

section
variable {P : Program} {w : World} {A : Around} {E : Value → Shared → Prop} {s : Shared}
theorem new_set1 (x : Value) {Q : Value → Shared → Prop} (h : Q (.ref s.heap.objs.size) { s with heap := s.heap.push (sObj "set" (fresh w)) }) :
    codeAny (model P w) A (.call (.builtin "set.__new__") ⟨[.type "set", x], []⟩) (wants Q E) s := by
  refine codeAny_of_tree ?_
  show wpAny _ A.in1 (checkBuiltinCall "set.__new__" ⟨[.type "set", x], []⟩ >>= fun _ => again (.builtin "set.__new__" ⟨[.type "set", x], []⟩)) _ _ s
  refine wpAny_bind (wpAny_of_eq (PySem.F.newCall_set_1 x) (wpAny_pure ⟨plainId_quiet F.plain_set_new _, codeAny_builtin F.entry_set_new ?_⟩))
  rw [Around.under_plainId F.plain_set_new _]
  unfold Builtin.«set.__new__» Builtin.Frozenset.newClass
  have sub := sub_set_self
  obtain ⟨hp, g, d, tk, os⟩ := s
  dsimp only
  wp_walk
  refine wpAny_askSetting (wpAny_pure ?_)
  dsimp only
  simp only [newObj]
  exact wpAny_bind (wpAny_alloc (wpAny_pure (wpAny_pure h)))

set_option maxHeartbeats 8000000 in
/-- set(x), x whatever hands out the texts xs -/
theorem call_set {x : Value} {xs : List PySem.Str} {Q : Value → Shared → Prop} (T : Texts P w s x xs) (hh : A.handled = none) (hb : xs.length + 1 < scanBound)
    (h : ∀ h' tk D, (∀ b o, s.heap.get? b = some o → h'.get? b = some o) → h'.get? s.heap.objs.size = some (sObj "set" D) → TxOk P w D (intoSet [] xs) → WalkT w D.2.2 → Q (.ref s.heap.objs.size) { s with heap := h', toks := tk }) :
    wpAny (model P w) A (call (.type "set") [x]) Q E s := by
  obtain ⟨T0, hTy, sub1, sub2, nd⟩ := T.ex
  obtain ⟨c, tl, hmro⟩ := F.called_set.mro
  have made := F.called_set.made
  have sub := F.called_set.sub
  refine wpAny_call (codeAny_of_tree ?_)
  show wpAny _ _ (callAny (.type "set") _) _ _ _
  refine wpAny_pure ⟨Code.quiet_builtin _ (by decide +kernel), codeAny_builtin F.entry_type_call ?_⟩
  rw [Around.under_plain (weight_type_call_type "set" [x] []) rfl]
  have notT := F.called_set.notType
  have can := F.called_set.canCreate
  have ck := PySem.F.typeCall_set_1 x
  repeat (any_goals (first | assumption | wp_step))
  refine codeAny_mono (new_set1 x (E := E) (Q := fun obj s1 => obj = .ref s.heap.objs.size ∧ s1 = { s with heap := s.heap.push (sObj "set" (fresh w)) }) ⟨rfl, rfl⟩) fun r s1 hr => ?_
  cases r with
  | error e => exact hr
  | ok fl =>
    cases fl with
    | ret obj =>
      obtain ⟨rfl, rfl⟩ := hr
      have hS : (s.heap.push (sObj "set" (fresh w))).get? s.heap.objs.size = some (sObj "set" (fresh w)) := Heap.get?_push_size _ rfl
      have hT : Shared.TypeIs { s with heap := s.heap.push (sObj "set" (fresh w)) } (.ref s.heap.objs.size) "set" := ⟨_, hS, rfl⟩
      have lki := F.called_set.init.lookup
      have bdi := F.called_set.init.bind (.ref s.heap.objs.size)
      repeat (any_goals (first | assumption | wp_step))
      refine codeAny_mono (codeAny_call_builtin (R := wants (fun r s2 => r = .none ∧ ∃ h' tk D, s2 = { s with heap := h', toks := tk } ∧ (∀ b o, s.heap.get? b = some o → h'.get? b = some o) ∧
          h'.get? s.heap.objs.size = some (sObj "set" D) ∧ TxOk P w D (intoSet [] xs) ∧ WalkT w D.2.2) E) F.called_set.init.plain F.entry_set_init (check_set_init_1 hT ?_)) fun r2 s2 hr2 => ?_
      · have kp : ∀ b o, s.heap.get? b = some o → (s.heap.push (sObj "set" (fresh w))).get? b = some o := fun b o e => Heap.get?_push_of_some _ e
        have hx : Shared.TypeIs { s with heap := s.heap.push (sObj "set" (fresh w)) } x T0 := hTy _ kp
        unfold Builtin.«set.__init__» noKeywords Builtin.Frozenset.updateFrom
        generalize hPI : pyIter = PI
        wp_walk
        subst hPI
        have zp : (s.heap.push (sObj "set" (fresh w))).objs.size = s.heap.objs.size + 1 := Heap.size_push _ _
        refine T.it _ _ _ _ kp fun o fp Pv St hW hfp hv h0 => ?_
        refine wpAny_bind (wpAny_runValue ?_)
        have naI : s.heap.objs.size ≠ (s.heap.push (sObj "set" (fresh w))).objs.size := by rw [zp]; exact Nat.ne_of_lt (Nat.lt_succ_self _)
        have naf : s.heap.objs.size ∉ fp := fun z => by
          rcases hfp _ z with q | q
          · exact naI q
          · exact Nat.lt_irrefl _ q
        refine fill_loop (hW A.in1.in1.in1 (by simp [hh])) s.heap.objs.size naf naI xs rfl hv hb (xs.length - 0) 0 _ (fresh w) rfl (Nat.zero_le _) h0 (Heap.get?_push_of_some _ hS) (fresh_ok P w) (fresh_walk w) fun h' tk D' k' hD' F' g' => ?_
        show wpAny _ _ _ _ _ _
        refine wpAny_pure ?_
        show wpAny _ _ (ret Value.none) _ _ _
        refine wpAny_pure ⟨rfl, h', tk, D', rfl, fun b o e => ?_, hD', F', g'⟩
        have lt := Heap.lt_size e
        exact k' b o (Nat.ne_of_lt lt) (by rw [zp]; exact Nat.ne_of_lt (Nat.lt_succ_of_lt lt)) (Heap.get?_push_of_some _ (kp b o e))
      · cases r2 with
        | error e => exact hr2
        | ok fl2 =>
          cases fl2 with
          | ret r =>
            obtain ⟨rfl, h', tk, D, rfl, k', hD, F', g'⟩ := hr2
            repeat (any_goals (first | assumption | wp_step))
            exact h h' tk D k' hD F' g'
          | _ => exact hr2.elim
    | _ => exact hr.elim
end
end TS
end
/-! TS4 -/
set_option linter.all false
set_option maxRecDepth 100000
set_option maxHeartbeats 4000000
noncomputable section
namespace TS
open PySem PySem.Spec PyProof.Rows L2 PySem.Froz

/-- x hands out the texts xs: a list, a tuple, a text -/
def TextsV (K : PySem.W.Frag) (H : Hp) (x : V) (xs : List PySem.Str) : Prop :=
  (∃ a, x = .ref a ∧ SqL K H a (xs.map V.str)) ∨ (∃ a, x = .ref a ∧ SqT K H a (xs.map V.str)) ∨ ∃ z, x = .str z ∧ xs = signs z
def rSetNew (P : Program) (w : World) (K : PySem.W.Frag) : List V → Hp → VK → Prop := fun vs H Q => ∃ x xs, vs = [x] ∧ TextsV K H x xs ∧ xs.length ≤ 4000 ∧
  ∀ p, H p = none → Q (.ref p) (upd H p (SetS P w p (intoSet [] xs)))
def rSortedSet (P : Program) (w : World) : List V → Hp → VK → Prop := fun vs H Q => ∃ a l, vs = [V.ref a] ∧ H a = some (SetS P w a l) ∧ l.Nodup ∧ l.length ≤ 4000 ∧
  ∀ (ys : List PySem.Str) (p : Addr), ys.Perm l → sortedS ys = true → H p = none → Q (.ref p) (upd H p (.lst (ys.map V.str)))
def rSortedT (K : PySem.W.Frag) : List V → Hp → VK → Prop := fun vs H Q => ∃ (a : Addr) (xs : List PySem.Str), vs = [V.ref a] ∧ SqL K H a (xs.map V.str) ∧
  ∀ (ys : List PySem.Str) (p : Addr), ys.Perm xs → sortedS ys = true → H p = none → Q (.ref p) (upd H p (.lst (ys.map V.str)))

theorem scan4000 {n : Nat} (h : n ≤ 4000) : n + 1 < scanBound := by unfold scanBound; omega
theorem line4000 {n : Nat} (h : n ≤ 4000) : n ≤ sizeLine := by rw [sizeLine_eq]; omega

section
variable {X : Cx} {pins : List (Addr × Obj)} {σ : L2.St} {H : Hp} {s : Shared}
theorem texts_of {x : V} {u : Value} {xs : List PySem.Str} (I : Inv X pins σ H s) (r : RelV x u) (h : TextsV X.K H x xs) : Texts X.prog X.w s u xs := by
  rcases h with ⟨a, rfl, h⟩ | ⟨a, rfl, h⟩ | ⟨z, rfl, rfl⟩
  · obtain rfl : u = Value.ref a := r
    obtain ⟨its, rv, hl, _⟩ := I.list h
    exact texts_list hl.isList rv.strs
  · obtain rfl : u = Value.ref a := r
    obtain ⟨its, rv, hl, _⟩ := I.tuple h
    exact texts_tuple hl rv.strs
  · obtain ⟨t, rfl⟩ := r
    exact texts_str
theorem cr_setNew (hc : X.calm = true) : CallR X (.type "set") (rSetNew X.prog X.w X.K) := by
  intro pins s σ H vs us Q I r h
  obtain ⟨x, xs, rfl, hx, hz, q⟩ := h
  obtain ⟨u, rfl, ru⟩ := r.one
  refine call_set (texts_of I ru hx) (I.ok.hd hc) (scan4000 hz) fun h' tk D k hD F g => ?_
  have hn : H s.heap.objs.size = none := I.hok.fresh (Nat.le_refl _)
  exact ⟨.ref s.heap.objs.size, _, I.laid (t' := tk) k (Nat.le_refl _) (setS_new hD F g), rfl, q _ hn⟩

theorem strs_of (P : Program) (w : World) : ∀ {us : List Value}, (∀ u ∈ us, ∃ k tk, u = Value.str k tk) → ∃ ss, StrsAre us ss
  | [], _ => ⟨[], .nil⟩
  | u :: us, h => by
    obtain ⟨k, tk, rfl⟩ := h u List.mem_cons_self
    obtain ⟨ss, r⟩ := strs_of P w (us := us) fun e he => h e (List.mem_cons_of_mem _ he)
    exact ⟨k :: ss, .cons k tk r⟩
theorem strs_mem : ∀ {us : List Value} {ss : List PySem.Str}, StrsAre us ss → ∀ k, k ∈ ss ↔ ∃ u ∈ us, (strKind X.prog X.w).is k u = true
  | _, _, .nil, k => by simp
  | _, _, .cons n t r, k => by
    have ih := strs_mem r k
    have e : (strKind X.prog X.w).is k (.str n t) = true ↔ k = n := by
      constructor
      · intro h
        have q := (strKind X.prog X.w).inj (.str n t) k n h (is_str n t)
        exact q
      · rintro rfl; exact is_str k t
    simp only [List.mem_cons, exists_eq_or_imp, ih, e]
theorem perm_of_sub : ∀ {l ss : List PySem.Str}, l.Nodup → (∀ k ∈ l, k ∈ ss) → ss.length ≤ l.length → ss.Perm l
  | [], ss, _, _, h => by
    obtain rfl : ss = [] := List.length_eq_zero_iff.mp (Nat.le_zero.mp h)
    exact .refl _
  | k :: l, ss, d, m, h => by
    obtain ⟨d1, d2⟩ := List.nodup_cons.mp d
    have hk := m k List.mem_cons_self
    have p := List.perm_cons_erase hk
    have el : (ss.erase k).length + 1 = ss.length := by rw [p.length_eq, List.length_cons]
    refine p.trans (.cons k (perm_of_sub d2 (fun j hj => ?_) (by simp only [List.length_cons] at h; omega)))
    have ne : j ≠ k := fun z => d1 (z ▸ hj)
    exact (List.mem_erase_of_ne ne).mpr (m j (List.mem_cons_of_mem _ hj))

theorem cr_sortedSet (hc : X.calm = true) : CallR X (.builtin "sorted") (rSortedSet X.prog X.w) := by
  intro pins s σ H vs us Q I r h
  obtain ⟨a, l, rfl, ha, nd, hz, q⟩ := h
  rw [Vals.ref1 r]
  obtain ⟨D, hD, F, g⟩ := setS_get I ha
  obtain ⟨es, ep, t⟩ := D
  have size : es.size = l.length := F.sz
  refine Calls.call_function_entry kind_sorted plain_sorted entry_sorted (args_sorted1 _) ?_
  unfold Builtin.«sorted»
  refine wpAny_bind (m := checkCount "sorted" 1 1 _) (wpAny_pure ?_)
  refine wpAny_bind (collect_set (A := X.A.in1) (I.ok.hd hc) ⟨_, hD, rfl, rfl⟩ F.fit (by rw [size]; have := scan4000 hz; omega) g.ris g.led fun s1 vs k1 z1 g1 o1 pm => ?_)
  have hlen : vs.length = l.length := by rw [pm.length_eq, List.length_map, Array.length_toList]; exact size
  obtain ⟨ss, hS⟩ : ∃ ss, StrsAre vs ss := strs_of X.prog X.w fun u hu => by
    obtain ⟨e, he, rfl⟩ := List.mem_map.mp (pm.mem_iff.mp hu)
    obtain ⟨⟨k, hk, _⟩, _⟩ := F.el e he
    obtain ⟨tk, z⟩ := (by
      have q := hk
      exact keyIs_shape (k := Sum.inr k) q : (∃ i t, (Sum.inr k : Key) = Sum.inl i ∧ e.2 = Value.int i t) ∨ (∃ x t, (Sum.inr k : Key) = Sum.inr x ∧ e.2 = Value.str x t)).elim (fun ⟨i, t, z, _⟩ => nomatch z) (fun ⟨x, t, _, z⟩ => (⟨x, t, z⟩ : ∃ x t, e.2 = Value.str x t))
    exact ⟨_, _, z.choose_spec⟩
  have ps : ss.Perm l := by
    refine perm_of_sub nd (fun k hk => ?_) (by rw [← StrsAre.len_eq hS, hlen]; exact Nat.le_refl _)
    obtain ⟨e, he, z⟩ := (F.mem k).mp hk
    exact (strs_mem (X := X) hS k).mpr ⟨e.2, pm.mem_iff.mpr (List.mem_map.mpr ⟨e, he, rfl⟩), z⟩
  refine wpAny_bind (wpAny_newList ?_ (by rw [hlen]; exact line4000 hz))
  have hoL : (s1.heap.push (seqObj "list" vs.toArray 0)).get? s1.heap.objs.size = some (seqObj "list" vs.toArray 0) := Heap.get?_push_size _ rfl
  refine wpAny_bind (wpAny_holding (wpAny_call_entry slot_list_sort ⟨_, hoL, rfl⟩ entry_list_sort (list_sort_treeKAny strKind_oneLt hoL hS.keysOf (fun v1 v2 rest e => keyKind_strs (by rw [← e]; exact hS)) (by rw [hlen]; exact line4000 hz) fun st' hp hs => ?_) (args_list_sort _)))
  obtain ⟨ys, y1, y2, y3⟩ := sorted_out_str hS hp hs
  refine ⟨_, rfl, ?_⟩
  obtain ⟨c, hc2⟩ := sortedHeap_at (vs := vs) (out := (arrOf st').map (·.2)) hoL
  have hn : H s1.heap.objs.size = none := I.hok.fresh z1
  have kk : ∀ b u, s.heap.get? b = some u → (sortedHeap (s1.heap.push (seqObj "list" vs.toArray 0)) s1.heap.objs.size vs ((arrOf st').map (·.2))).get? b = some u := fun b u e => by
    have lt := Heap.lt_size (k1 b u e)
    rw [sortedHeap_old (Nat.ne_of_lt lt) (by rw [size_push']; exact Nat.lt_succ_of_lt lt)]
    exact Heap.get?_push_of_some _ (k1 b u e)
  have yl : (ys.map V.str).length ≤ sizeLine := by rw [List.length_map, (y2.trans ps).length_eq]; exact line4000 hz
  have J : Inv X pins σ (upd H s1.heap.objs.size (.lst (ys.map V.str))) { s with heap := sortedHeap (s1.heap.push (seqObj "list" vs.toArray 0)) s1.heap.objs.size vs ((arrOf st').map (·.2)), gens := s1.gens, drawn := s1.drawn, toks := s1.toks } :=
    I.call (ch := []) (Un.laid kk z1 hn) (I.hok.laid kk z1 ⟨yl, _, c, vals_of_strs y1, hc2⟩) (by rw [g1]; exact I.bare) (fun _ z => nomatch z)
  obtain ⟨hp', g', d', tk', os'⟩ := s1
  obtain ⟨hp0, g0, d0, tk0, os0⟩ := s
  have eo : os' = os0 := o1
  subst eo
  exact wpAny_pure ⟨_, rfl, .ref _, _, J, rfl, q ys _ (y2.trans ps) y3 hn⟩
/-- sorted(xs), texts, any number -/
theorem cr_sortedT : CallR X (.builtin "sorted") (rSortedT X.K) := by
  intro pins s σ H vs us Q I r h
  obtain ⟨a, xs, rfl, hs, q⟩ := h
  obtain ⟨its, rv, hl, hz⟩ := I.list hs
  rw [Vals.ref1 r]
  have zl := rv.length
  refine sorted_strsAny hl.isList rv.strs (by rw [← zl]; exact hz) fun out ys h1 h2 h3 => ?_
  obtain ⟨ep, he⟩ := sortedAll_at s.heap its out
  have yl : (ys.map V.str).length ≤ sizeLine := by rw [List.length_map, h2.length_eq, ← List.length_map (f := V.str)]; exact hz
  exact ⟨.ref _, upd H (s.heap.objs.size + 1) (.lst (ys.map V.str)), I.laid (t' := s.toks) (fun _ _ => sortedAll_old) (Nat.le_succ _) ⟨yl, out.toList, ep, vals_of_strs h1, he⟩, rfl, q ys _ h2 h3 (I.hok.fresh (Nat.le_succ _))⟩
end
end TS
end
/-! TS5 -/
set_option linter.all false
set_option maxRecDepth 100000
set_option maxHeartbeats 4000000
noncomputable section
namespace TS
open PySem PySem.Spec PyProof.Rows L2

/-- keys, value by value -/
abbrev KeysFor (g : Value → Value → Prop) : List Value → List Value → Prop := Paired fun v k => g v k

section
variable {P : Program} {w : World} {A : Around} {E : Value → Shared → Prop} {s : Shared} {κ : KeyKind} {g : Value → Value → Prop} {vs : List Value} {f : Value} {kw : List (PySem.Str × Value)}
/-- what a sort by a key leaves: the pairs of keys and values, in order -/
structure ByKey (κ : KeyKind) (g : Value → Value → Prop) (vs : List Value) (xs : Array Keyed) : Prop where
  ks : ∃ ks, KeysFor g vs ks ∧ xs.Perm (ks.toArray.zip vs.toArray) ∧ SortedToK κ xs xs.size ∧ Stable κ xs (ks.toArray.zip vs.toArray)

theorem byKey_tail {a kS : Addr} {keys : Array Value} {e e1 : Nat} {st : SortSt} {R : PySem.Fin → Shared → Prop} (hka : kS ≠ a) (hk : s.heap.get? kS = some (seqObj "list" keys e)) (ha : s.heap.get? a = some (seqObj "list" #[] e1))
    (hks : keys.size ≤ sizeLine) (hz : (arrOf st).size ≤ sizeLine) (hfl : failedOf st = none)
    (h : ∀ h' tk c, (∀ b o, b ≠ a → b ≠ kS → s.heap.get? b = some o → h'.get? b = some o) → h'.get? a = some (seqObj "list" ((arrOf st).map (·.2)) c) → R (.done (.ret .none)) { s with heap := h', toks := tk }) :
    wpAny (model P w) A (PyProof.Rows.ksk_tail a false e1 (.ref kS) st) R E s := by
  have b1 := Heap.SameBut.update s.heap kS (Obj.mapSeq fun _ => (#[] : Array Value))
  have ha1 := (b1.2 a hka.symm).trans ha
  unfold PyProof.Rows.ksk_tail
  try dsimp only
  refine wpAny_bind (listUpdate_at hk rfl ?_ hks (Nat.zero_le _))
  refine wpAny_bind (wpAny_letGo (wpAny_bind (seqEpoch_at ha1 rfl ?_)))
  refine wpAny_bind (listUpdate_at ha1 rfl ?_ (Nat.zero_le _) (by
    show ((arrOf st).map (·.2)).size ≤ _
    rw [Array.size_map]; first | exact hz | exact Nat.le_trans hz (Nat.le_succ _)))
  rw [hfl]
  simp only [bne_self_eq_false, Bool.false_eq_true, if_false]
  have b2 := Heap.SameBut.update (s.heap.update kS (Obj.mapSeq fun _ => (#[] : Array Value))) a (Obj.mapSeq fun _ => (arrOf st).map (·.2))
  exact wpAny_pure (h _ _ _ (fun b o h1 h2 z => (b2.2 b h1).trans ((b1.2 b h2).trans z)) (get?_update_seq ha1 fun _ => (arrOf st).map (·.2)))

theorem keysFor_len {ks : List Value} (r : KeysFor g vs ks) : ks.length = vs.length := (Paired.length r).symm

theorem byKey_end (hO : κ.OneLt) {a kS : Addr} {ks : List Value} {e e1 : Nat} {R : PySem.Fin → Shared → Prop} (hka : kS ≠ a) (hk : s.heap.get? kS = some (seqObj "list" ks.toArray e)) (ha : s.heap.get? a = some (seqObj "list" #[] e1))
    (r : KeysFor g vs ks) (hkey : ∀ v k, g v k → ∃ c, κ.keyOf k = some c) (hkk : 2 ≤ vs.length → keyKind' ks.toArray = pure oneType') (hz : vs.length ≤ sizeLine)
    (h : ∀ h' tk c xs, (∀ b o, b ≠ a → b ≠ kS → s.heap.get? b = some o → h'.get? b = some o) → h'.get? a = some (seqObj "list" (xs.map (·.2)) c) → ByKey κ g vs xs → R (.done (.ret .none)) { s with heap := h', toks := tk }) :
    wpAny (model P w) A (PyProof.Rows.ksk_end a false vs.toArray e1 (.ref kS) ks.toArray) R E s := by
  have kl := keysFor_len r
  have zs : (ks.toArray.zip vs.toArray).size = vs.length := by rw [Array.size_zip, List.size_toArray, List.size_toArray, kl, Nat.min_self]
  have ok : KeysOf κ (ks.toArray.zip vs.toArray) := fun p hp => by
    have q : p ∈ ks.zip vs := by
      have z := hp
      rw [Array.toList_zip] at z
      simpa using z
    have go : ∀ {vs ks : List Value}, KeysFor g vs ks → ∀ p ∈ ks.zip vs, g p.2 p.1 := by
      intro vs ks r
      induction r with
      | nil => intro p hp; simp at hp
      | cons r t ih =>
        intro p hp
        rcases List.mem_cons.mp (show p ∈ _ :: _ from hp) with z | z
        · rw [z]; exact r
        · exact ih p z
    exact hkey _ _ (go r p q)
  unfold PyProof.Rows.ksk_end
  try dsimp only
  simp only [Bool.false_eq_true, if_false]
  by_cases h2 : vs.toArray.size < 2
  · rw [if_pos h2, if_pos h2]
    refine wpAny_bind (wpAny_pure ?_)
    rw [StateT.run_pure]
    refine wpAny_bind (wpAny_pure ?_)
    try dsimp only
    refine byKey_tail (st := SortSt.mk' general' (ks.toArray.zip vs.toArray) #[] 7 none) hka hk ha (by rw [List.size_toArray, kl]; exact hz) (by show (ks.toArray.zip vs.toArray).size ≤ _; rw [zs]; exact hz) rfl fun h' tk c kp hh => h h' tk c _ kp hh ⟨ks, r, Array.Perm.refl _, ?_, Stable.refl _⟩
    intro i j hij hj
    have hj2 : j < vs.length := by rw [← zs]; exact hj
    rw [List.size_toArray] at h2
    obtain rfl : i = j := by omega
    exact KeyOrd.kle_refl _
  · rw [if_neg h2, if_neg h2]
    rw [List.size_toArray] at h2
    rw [hkk (by omega)]
    refine wpAny_bind (wpAny_pure ?_)
    refine wpAny_bind (wpAny_mono (wpS_sortRunsSt (κ := κ) (a₀ := ks.toArray.zip vs.toArray) (st := SortSt.mk' oneType' (ks.toArray.zip vs.toArray) #[] 7 none)
      (Q := fun _ st' => (arrOf st').Perm (ks.toArray.zip vs.toArray) ∧ failedOf st' = none ∧ SortedToK κ (arrOf st') (arrOf st').size ∧ Stable κ (arrOf st') (ks.toArray.zip vs.toArray))
      hO ok ⟨Array.Perm.refl _, rfl, rfl⟩ rfl (Stable.refl _) (by rw [zs]; omega) fun st' a1 a2 a3 a4 => ⟨a1, a2, by rw [a1.size_eq]; exact a3, a4⟩) ?_ fun _ _ e => e)
    rintro ⟨⟨⟩, st'⟩ s' ⟨rfl, hp, hf, hs, hst⟩
    try dsimp only
    exact byKey_tail hka hk ha (by rw [List.size_toArray, kl]; exact hz) (by rw [hp.size_eq, zs]; exact hz) hf fun h' tk c kp hh => h h' tk c _ kp hh ⟨ks, r, hp, hs, hst⟩
end
end TS
end
/-! TS6 -/
set_option linter.all false
set_option maxRecDepth 100000
set_option maxHeartbeats 4000000
noncomputable section
namespace TS
open PySem PySem.Spec PyProof.Rows L2

section
variable {P : Program} {w : World} {A : Around} {E : Value → Shared → Prop} {s : Shared} {κ : KeyKind} {g : Value → Value → Prop} {vs : List Value} {f : Value} {kw : List (PySem.Str × Value)}
/-- each value's key is asked, nothing else happens -/
def AsksKey (P : Program) (w : World) (A : Around) (f : Value) (g : Value → Value → Prop) (vs : List Value) : Prop := ∀ v ∈ vs, ∀ s' : Shared, wpAny (model P w) A (call f [v]) (fun k s2 => (∃ tk, s2 = { s' with toks := tk }) ∧ g v k) (fun _ _ => False) s'

theorem keysFor_snoc : ∀ {as ks : List Value} {v k : Value}, KeysFor g as ks → g v k → KeysFor g (as ++ [v]) (ks ++ [k])
  | _, _, _, _, .nil, h => .cons h .nil
  | _, _, _, _, .cons r t, h => .cons r (keysFor_snoc t h)

theorem byKey_rest (hO : κ.OneLt) {a kS : Addr} {e e1 : Nat} {R : PySem.Fin → Shared → Prop} (hka : kS ≠ a) (hk : s.heap.get? kS = some (seqObj "list" #[] e)) (ha : s.heap.get? a = some (seqObj "list" #[] e1))
    (ask : AsksKey P w A f g vs) (hkey : ∀ v k, g v k → ∃ c, κ.keyOf k = some c) (hkk : ∀ ks, KeysFor g vs ks → 2 ≤ vs.length → keyKind' ks.toArray = pure oneType') (hz : vs.length ≤ sizeLine)
    (h : ∀ h' tk c xs, (∀ b o, b ≠ a → b ≠ kS → s.heap.get? b = some o → h'.get? b = some o) → h'.get? a = some (seqObj "list" (xs.map (·.2)) c) → ByKey κ g vs xs → R (.done (.ret .none)) { s with heap := h', toks := tk }) :
    wpAny (model P w) A (PyProof.Rows.ksk_rest a f false vs.toArray e1 (.ref kS)) R E s := by
  unfold PyProof.Rows.ksk_rest
  refine wpAny_bind (wpAny_rule ?_)
  first
    | rw [List.forIn_toArray]
    | (rw [← Array.forIn_toList]; simp only [List.toList_toArray])
    | rw [← Array.forIn_toList]
  refine wpAny_bind (ksk_fold (fun i s' => ∃ h' tk ks c, s' = { s with heap := h', toks := tk } ∧ (∀ b o, b ≠ a → b ≠ kS → s.heap.get? b = some o → h'.get? b = some o) ∧ h'.get? kS = some (seqObj "list" (List.toArray ks) c) ∧
    h'.get? a = some (seqObj "list" #[] e1) ∧ KeysFor g (vs.take i) ks) vs 0 s ⟨s.heap, s.toks, [], e, rfl, fun _ _ _ _ z => z, hk, ha, by rw [List.take_zero]; exact .nil⟩ ?step ?done)
  case step =>
    rintro j x s' hx ⟨h', tk, ks, c, rfl, kp, hk', ha', r⟩
    simp only [Nat.zero_add] at r ⊢
    have hj : j < vs.length := (List.getElem?_eq_some_iff.mp hx).1
    have kl : ks.length = j := by
      have q := Paired.length r
      rw [List.length_take] at q
      omega
    refine wpAny_bind (wpAny_attempt (wpAny_mono (ask x (List.mem_of_getElem? hx) _) (fun k s2 hq => ?_) fun _ _ z => z.elim))
    obtain ⟨⟨tk2, rfl⟩, gk⟩ := hq
    try dsimp only
    have b1 := Heap.SameBut.update h' kS (Obj.mapSeq (·.push k))
    obtain ⟨c2, hc2⟩ : ∃ c2, (h'.update kS (Obj.mapSeq (·.push k))).get? kS = some (seqObj "list" (List.toArray (ks ++ [k])) c2) := by
      have q := get?_update_seq hk' (·.push k)
      rw [List.push_toArray] at q
      exact ⟨_, q⟩
    have ek : vs.take (j + 1) = vs.take j ++ [x] := by rw [List.take_add_one, hx] <;> rfl
    refine wpAny_bind (listUpdate_at hk' rfl ?_ (by rw [List.size_toArray, kl]; omega) (by
      show ((List.toArray ks).push k).size ≤ _
      rw [Array.size_push, List.size_toArray, kl]; omega))
    exact wpAny_pure ⟨rfl, _, _, ks ++ [k], c2, rfl, fun b o h1 h2 z => (b1.2 b h2).trans (kp b o h1 h2 z), hc2, (b1.2 a hka.symm).trans ha', by rw [ek]; exact keysFor_snoc r gk⟩
  case done =>
    rintro s' ⟨h', tk, ks, c, rfl, kp, hk', ha', r⟩
    have e3 : vs.take (0 + vs.length) = vs := List.take_of_length_le (by omega)
    rw [e3] at r
    try dsimp only
    refine wpAny_bind (listItems_at hk' rfl ?_)
    exact byKey_end (s := { s with heap := h', toks := tk }) hO hka hk' ha' r hkey (hkk ks r) hz fun h2 tk2 c2 xs k2 q2 bk => h h2 tk2 c2 xs (fun b o h1 h3 z => k2 b o h1 h3 (kp b o h1 h3 z)) q2 bk

/-- sorted(l, key=f) over the raw heap -/
theorem sorted_byKey (hO : κ.OneLt) {l : Addr} {Q : Value → Shared → Prop} (hl : s.heap.IsList l vs.toArray) (hz : vs.length ≤ sizeLine)
    (ha1 : argsOk "sorted" ⟨[.ref l], kw⟩) (ha2 : ∀ x, argsOk "list.sort" ⟨[.ref x], kw⟩) (ht : ∀ x, Builtin.«list.sort» ⟨[.ref x], kw⟩ = ksk_tree x f false)
    (ask : AsksKey P w A.in1.in1 f g vs) (hkey : ∀ v k, g v k → ∃ c, κ.keyOf k = some c) (hkk : ∀ ks, KeysFor g vs ks → 2 ≤ vs.length → keyKind' ks.toArray = pure oneType')
    (h : ∀ D h' tk c xs, (∀ b o, s.heap.get? b = some o → h'.get? b = some o) → s.heap.objs.size ≤ D → h'.get? D = some (seqObj "list" (xs.map (·.2)) c) → ByKey κ g vs xs → Q (.ref D) { s with heap := h', toks := tk }) :
    wpAny (model P w) A (call (.builtin "sorted") [.ref l] kw) Q E s := by
  refine call_function_entry_kw kind_sorted plain_sorted entry_sorted ha1 ?_
  unfold Builtin.«sorted»
  refine wpAny_bind (m := checkCount "sorted" 1 1 _) (wpAny_pure ?_)
  refine wpAny_bind (collect_list hl ?_ hz)
  refine wpAny_bind (wpAny_newList ?_ hz)
  have sz1 : ((s.heap.push (seqObj "list" #[] 0)).update s.heap.objs.size (Obj.mapSeq (· ++ vs.toArray))).objs.size = s.heap.objs.size + 1 := by
    rw [Heap.size_update, size_push']
  have old : ∀ b o, s.heap.get? b = some o → ((s.heap.push (seqObj "list" #[] 0)).update s.heap.objs.size (Obj.mapSeq (· ++ vs.toArray))).get? b = some o := fun b o q => by
    rw [Heap.get?_update_ne _ _ _ _ (Nat.ne_of_lt (Heap.lt_size q))]
    exact Heap.get?_push_of_some _ q
  generalize (s.heap.push (seqObj "list" #[] 0)).update s.heap.objs.size (Obj.mapSeq (· ++ vs.toArray)) = h1 at sz1 old ⊢
  have hoL : (h1.push (seqObj "list" vs.toArray 0)).get? h1.objs.size = some (seqObj "list" vs.toArray 0) := Heap.get?_push_size _ rfl
  refine wpAny_bind (wpAny_holding (wpAny_call_entry_kw slot_list_sort ⟨_, hoL, rfl⟩ entry_list_sort ?body (ha2 _)))
  case body =>
    show wpAny (model P w) A.in1.in1 (Builtin.«list.sort» ⟨[.ref h1.objs.size], kw⟩) _ _ _
    rw [ht h1.objs.size]
    unfold PyProof.Rows.ksk_tree
    have e2 := get?_update_seq hoL fun _ => (#[] : Array Value)
    refine wpAny_bind (listItems_at hoL rfl ?_)
    refine wpAny_bind (listUpdate_at hoL rfl ?_ (by rw [List.size_toArray]; exact hz) (Nat.zero_le _))
    refine wpAny_bind (seqEpoch_at e2 rfl ?_)
    refine wpAny_bind (wpAny_newTuple ?_ (by show vs.length ≤ _; exact hz))
    refine wpAny_bind (wpAny_newList ?_ (Nat.zero_le _))
    refine wpAny_holding ?_
    have sz2 : ((h1.push (seqObj "list" vs.toArray 0)).update h1.objs.size (Obj.mapSeq fun _ => (#[] : Array Value))).objs.size = h1.objs.size + 1 := by rw [Heap.size_update, size_push']
    have sz3 : (((h1.push (seqObj "list" vs.toArray 0)).update h1.objs.size (Obj.mapSeq fun _ => (#[] : Array Value))).push (seqObj "tuple" vs.toArray 0)).objs.size = h1.objs.size + 2 := by rw [size_push', sz2]
    have old2 : ∀ b o, s.heap.get? b = some o → ((((h1.push (seqObj "list" vs.toArray 0)).update h1.objs.size (Obj.mapSeq fun _ => (#[] : Array Value))).push (seqObj "tuple" vs.toArray 0)).push (seqObj "list" #[] 0)).get? b = some o := fun b o q => by
      have lt := Heap.lt_size q
      refine Heap.get?_push_of_some _ (Heap.get?_push_of_some _ ?_)
      rw [Heap.get?_update_ne _ _ _ _ (by rw [sz1]; exact Nat.ne_of_lt (Nat.lt_succ_of_lt lt))]
      exact Heap.get?_push_of_some _ (old b o q)
    refine byKey_rest hO (s := { s with heap := (((h1.push (seqObj "list" vs.toArray 0)).update h1.objs.size (Obj.mapSeq fun _ => (#[] : Array Value))).push (seqObj "tuple" vs.toArray 0)).push (seqObj "list" #[] 0) })
      (kS := (((h1.push (seqObj "list" vs.toArray 0)).update h1.objs.size (Obj.mapSeq fun _ => (#[] : Array Value))).push (seqObj "tuple" vs.toArray 0)).objs.size)
      (by rw [sz3]; exact Nat.ne_of_gt (by show _ < _ + 2; omega)) (Heap.get?_push_size _ rfl) (Heap.get?_push_of_some _ (Heap.get?_push_of_some _ e2)) ask hkey hkk hz fun h' tk c xs kp q bk => ⟨_, rfl, ?_⟩
    refine wpAny_pure ⟨_, rfl, h _ h' tk c xs (fun b o z => kp b o ?_ ?_ (old2 b o z)) (by rw [sz1]; exact Nat.le_succ _) q bk⟩
    · rw [sz1]; exact Nat.ne_of_lt (Nat.lt_succ_of_lt (Heap.lt_size z))
    · rw [sz3, sz1]
      have lt : b < s.heap.objs.size := Heap.lt_size z
      exact Nat.ne_of_lt (by show b < s.heap.objs.size + 1 + 2; exact Nat.lt_of_lt_of_le lt (Nat.le_add_right _ 3))
end
end TS
end
/-! TS7 -/
set_option linter.all false
set_option maxRecDepth 100000
set_option maxHeartbeats 4000000
noncomputable section
namespace TS
open PySem PySem.Spec PyProof.Rows L2

/-- a text's key k: what kf says -/
def TextKey (κ : KeyKind) (kf : PySem.Str → κ.α) (T : Value → Prop) (v k : Value) : Prop := ∃ x t, v = .str x t ∧ κ.keyOf k = some (kf x) ∧ T k
def sameC (κ : KeyKind) (c a : κ.α) : Bool := !κ.blt a c && !κ.blt c a

theorem zip_keys {g : Value → Value → Prop} : ∀ {vs ks : List Value}, KeysFor g vs ks → ∀ p ∈ ks.zip vs, g p.2 p.1
  | _, _, .nil, p, hp => by simp at hp
  | _, _, .cons r t, p, hp => by
    rcases List.mem_cons.mp (show p ∈ _ :: _ from hp) with z | z
    · rw [z]; exact r
    · exact zip_keys t p z
theorem zip_snd {g : Value → Value → Prop} : ∀ {vs ks : List Value}, KeysFor g vs ks → (ks.zip vs).map (·.2) = vs
  | _, _, .nil => rfl
  | _, _, .cons r t => by
    show _ :: (List.zip _ _).map (·.2) = _ :: _
    rw [zip_snd t]
theorem zip_list (ks vs : List Value) : (ks.toArray.zip vs.toArray).toList = ks.zip vs := by rw [Array.toList_zip]

theorem byKey_strs {κ : KeyKind} {kf : PySem.Str → κ.α} {T : Value → Prop} {vs : List Value} {ss : List PySem.Str} {xs : Array Keyed} (hS : StrsAre vs ss) (b : ByKey κ (TextKey κ kf T) vs xs) :
    ∃ ys, StrsAre (xs.map (·.2)).toList ys ∧ ys.Perm ss ∧ ys.Pairwise (fun x y => κ.kle (kf x) (kf y)) ∧ ∀ c, ys.filter (fun x => sameC κ c (kf x)) = ss.filter (fun x => sameC κ c (kf x)) := by
  obtain ⟨ks, r, pm, so, st⟩ := b.ks
  have pl : xs.toList.Perm (ks.zip vs) := by rw [← zip_list]; exact Array.perm_iff_toList_perm.mp pm
  have key : ∀ p ∈ xs.toList, TextKey κ kf T p.2 p.1 := fun p hp => zip_keys r p (pl.mem_iff.mp hp)
  have row : ∀ (l : List Keyed), (∀ p ∈ l, TextKey κ kf T p.2 p.1) → ∀ c, ((l.map fun p => strOf p.2).filter fun x => sameC κ c (kf x)) = (rowOf κ c l).map fun p => strOf p.2 := fun l h c => by
    unfold rowOf
    rw [List.filter_map]
    refine congrArg _ (List.filter_congr fun p hp => ?_)
    obtain ⟨x, t, e1, e2, _⟩ := h p hp
    show sameC κ c (kf (strOf p.2)) = sameKey κ c p
    unfold sameKey
    rw [e1, e2] <;> rfl
  have sn : (ks.zip vs).map (fun p => strOf p.2) = ss := by
    have e : (ks.zip vs).map (fun p => strOf p.2) = ((ks.zip vs).map (·.2)).map strOf := by rw [List.map_map] <;> rfl
    rw [e, zip_snd r]; exact hS.strs
  refine ⟨xs.toList.map fun p => strOf p.2, ?_, ?_, ?_, fun c => ?_⟩
  · have q := strsAre_map (xs.map (·.2)).toList fun v hv => by
      rw [Array.toList_map] at hv
      obtain ⟨p, hp, rfl⟩ := List.mem_map.mp hv
      obtain ⟨x, t, e1, _⟩ := key p hp
      exact ⟨x, t, e1⟩
    rw [Array.toList_map, List.map_map] at q
    rw [Array.toList_map]
    exact q
  · rw [← sn]; exact pl.map _
  · rw [List.pairwise_map, List.pairwise_iff_getElem]
    intro i j hi hj hij
    have hi' : i < xs.size := by simpa using hi
    have hj' : j < xs.size := by simpa using hj
    have q := so i j (Nat.le_of_lt hij) hj'
    have at_ : ∀ (k : Nat) (hk : k < xs.size), KK κ xs k = kf (strOf (xs.toList[k]'(by simpa using hk)).2) := fun k hk => by
      have hm : xs.toList[k]'(by simpa using hk) ∈ xs.toList := List.getElem_mem _
      obtain ⟨x, t, e1, e2, _⟩ := key _ hm
      rw [e1]
      unfold KK
      rw [Array.getElem?_eq_getElem hk]
      show (κ.keyOf (xs[k]).1).getD κ.dflt = kf x
      rw [show (xs[k]).1 = (xs.toList[k]'(by simpa using hk)).1 from by simp, e2] <;> rfl
    rw [at_ i hi', at_ j hj'] at q
    exact q
  · rw [row _ key, st c, ← sn, row _ fun p hp => zip_keys r p hp, zip_list]

/-! ### the two calls -/
def rSortLen (K : PySem.W.Frag) : V → Hp → VK → Prop := fun x H Q => ∃ (a : Addr) (xs : List PySem.Str), x = V.ref a ∧ SqL K H a (xs.map V.str) ∧ (∀ z ∈ xs, z.length ≤ 1000000) ∧
  ∀ (ys : List PySem.Str) (p : Addr), ys.Perm xs → ys.Pairwise (fun x y => x.length ≤ y.length) → (∀ n : Nat, ys.filter (fun x => x.length == n) = xs.filter (fun x => x.length == n)) → H p = none → Q (.ref p) (upd H p (.lst (ys.map V.str)))
def rSortStr (K : PySem.W.Frag) : V → Hp → VK → Prop := fun x H Q => ∃ (a : Addr) (xs : List PySem.Str), x = V.ref a ∧ SqL K H a (xs.map V.str) ∧
  ∀ (ys : List PySem.Str) (p : Addr), ys.Perm xs → ys.Pairwise (fun x y => ¬ y.cps.toList < x.cps.toList) → H p = none → Q (.ref p) (upd H p (.lst (ys.map V.str)))
def tKey (r : V → Hp → VK → Prop) (te : TE) : TE := fun σ H Q => te σ H fun x H1 => r x H1 Q

/-- sorted(.., key=f), f a name of a built-in -/
def KeyR (X : Cx) (f : Value) (r : V → Hp → VK → Prop) : Prop :=
  ∀ (pins : List (Addr × Obj)) (s : Shared) (σ : L2.St) (H : Hp) (x : V) (u : Value) (Q : VK), Inv X pins σ H s → RelV x u → r x H Q → wpAny (model X.prog X.w) X.A (call (.builtin "sorted") [u] [(Str.ofString "key", f)]) (EP X pins σ Q) X.xe s

section
variable {X : Cx}
theorem pe_sortedBy {y : PySem.Str} {e : Expr} {te : TE} {p p2 kp pos : Pos} {f : Value} {r : V → Hp → VK → Prop} (hr : KeyR X f r) (hg : Gl X "sorted") (hm : X.mg "sorted" = none) (hg2 : Gl X y) (hm2 : X.mg y = none) (hv2 : bootBuiltins y = some f) (ha : PA X [e] (tCons te tNil))
    (hn2 : y ≠ "__name__" := by decide) (hd2 : (y == ("__debug__" : PySem.Str)) = false := by decide)
    (hb : backTo pos (starEach [e] X.env) = (false, eval e X.env) :: backTo pos (starEach [] X.env) := by rfl) :
    PE X (.Call (.Name "sorted" p) [e] [⟨some "key", .Name y p2, kp⟩] pos) (tKey r te) := by
  refine ⟨fun pins s σ H Q I h => ?_⟩
  refine wpAny_Call_Name_kw (ld_blt I hg hm (by decide +kernel : bootBuiltins "sorted" = some (.builtin "sorted")) ?_ (by decide) (by decide))
  refine PyProof.Rows.callWith_kw (thn (ha.run pos pins s σ H (fun vs H1 => match vs with | [x] => r x H1 Q | _ => False) I h) fun us s1 ⟨vs, H1, I1, r1, q1⟩ => ?_) hb (by rw [hb]; rfl) rfl rfl
  match vs, r1, q1 with
  | [x], r1, q1 =>
    obtain ⟨u, rfl, ru⟩ := r1.one
    show wpAny _ _ (evalAll [(do let v ← eval (.Name y p2) X.env; standAt pos; pure v)]) _ _ s1
    refine wpAny_evalAll_cons (wpAny_bind (ld_blt I1 hg2 hm2 hv2 (wpAny_bind (wpAny_standAt (wpAny_pure (wpAny_evalAll_nil ?_)))) hn2 hd2))
    exact hr pins s1 σ H1 x u Q I1 ru q1

theorem strs_key {κ : KeyKind} {kf : PySem.Str → κ.α} {T : Value → Prop} {f : Value} {pins : List (Addr × Obj)} {s : Shared} {σ : L2.St} {H : Hp} {a : Addr} {xs : List PySem.Str} {Q : VK} (hO : κ.OneLt) (I : Inv X pins σ H s) (hs : SqL X.K H a (xs.map V.str))
    (ht : ∀ x, Builtin.«list.sort» ⟨[.ref x], [(Str.ofString "key", f)]⟩ = ksk_tree x f false)
    (ask : ∀ z ∈ xs, ∀ (t : Tok) (s' : Shared), wpAny (model X.prog X.w) X.A.in1.in1 (call f [.str z t]) (fun k s2 => (∃ tk, s2 = { s' with toks := tk }) ∧ κ.keyOf k = some (kf z) ∧ T k) (fun _ _ => False) s')
    (hkk : ∀ ks : List Value, (∀ k ∈ ks, T k) → 2 ≤ ks.length → keyKind' ks.toArray = pure oneType')
    (q : ∀ (ys : List PySem.Str) (p : Addr), ys.Perm xs → ys.Pairwise (fun x y => κ.kle (kf x) (kf y)) → (∀ c, ys.filter (fun x => sameC κ c (kf x)) = xs.filter (fun x => sameC κ c (kf x))) → H p = none → Q (.ref p) (upd H p (.lst (ys.map V.str)))) :
    wpAny (model X.prog X.w) X.A (call (.builtin "sorted") [.ref a] [(Str.ofString "key", f)]) (EP X pins σ Q) X.xe s := by
  obtain ⟨its, rv, hl, hz⟩ := I.list hs
  have hS := rv.strs
  have zl := rv.length
  refine sorted_byKey (g := TextKey κ kf T) hO hl.isList (by rw [← zl]; exact hz) (ksk_s1 _ _) (fun _ => ksk_l1 _ _) ht (fun v hv s' => ?_) (fun v k ⟨x, t, _, e, _⟩ => ⟨_, e⟩) (fun ks r h2 => hkk ks (fun k hk => ?_) (by rw [keysFor_len r]; exact h2)) fun D h' tk c out kp hD hq b => ?_
  · obtain ⟨i, hi⟩ := List.mem_iff_getElem?.mp hv
    obtain ⟨y, t, e, hy⟩ := hS.item i v hi
    subst e
    exact wpAny_mono (ask y (List.mem_of_getElem? hy) t s') (fun k s2 ⟨h1, h2, h3⟩ => ⟨h1, y, t, rfl, h2, h3⟩) fun _ _ z => z
  · have go : ∀ {vs ks : List Value}, KeysFor (TextKey κ kf T) vs ks → ∀ k ∈ ks, T k := by
      intro vs ks r
      induction r with
      | nil => intro k hk; simp at hk
      | cons r t ih =>
        intro k hk
        rcases List.mem_cons.mp hk with z | z
        · rw [z]; exact r.choose_spec.choose_spec.2.2
        · exact ih k z
    exact go r k hk
  · obtain ⟨ys, y1, y2, y3, y4⟩ := byKey_strs hS b
    have yl : (ys.map V.str).length ≤ sizeLine := by rw [List.length_map, y2.length_eq, ← List.length_map (f := V.str)]; exact hz
    have hn : H D = none := I.hok.fresh hD
    exact ⟨.ref D, upd H D (.lst (ys.map V.str)), I.laid (t' := tk) kp hD ⟨yl, _, c, vals_of_strs y1, hq⟩, rfl, q ys D y2 y3 y4 hn⟩

theorem key_len : KeyR X (.builtin "len") (rSortLen X.K) := by
  intro pins s σ H x u Q I ru h
  obtain ⟨a, xs, rfl, hs, hb, q⟩ := h
  obtain rfl : u = Value.ref a := ru
  refine strs_key (κ := PyProof.Rows.intKind) (kf := fun x => (x.length : Int)) (T := fun k => ∃ n t, k = Value.int n t) intKind_oneLt I hs (fun x => ksk_t4 _ _) (fun z hz t s' => ?_) (fun ks hk h2 => ?_) fun ys p y2 y3 y4 hp => ?_
  · have lt := hb z hz
    exact PySem.P.len_str (by omega) ⟨⟨_, rfl⟩, rfl, _, _, rfl⟩
  · obtain ⟨kz, hI⟩ : ∃ kz, IntsAre ks kz := by
      clear h2
      induction ks with
      | nil => exact ⟨[], .nil⟩
      | cons k ks ih =>
        obtain ⟨n, t, rfl⟩ := hk k List.mem_cons_self
        obtain ⟨kz, r⟩ := ih fun j hj => hk j (List.mem_cons_of_mem _ hj)
        exact ⟨n :: kz, .cons n t r⟩
    exact ksk_kind (keys := ks.toArray) (kz := kz) (by simpa using hI) (by simpa using h2)
  · refine q ys p y2 (y3.imp fun {x y} hxy => ?_) (fun n => ?_) hp
    · have z : decide ((y.length : Int) < (x.length : Int)) = false := hxy
      have z2 := of_decide_eq_false z
      omega
    · have z := y4 (n : Int)
      have e : ∀ x : PySem.Str, sameC PyProof.Rows.intKind (n : Int) (x.length : Int) = (x.length == n) := fun x => by
        show (!decide ((x.length : Int) < n) && !decide ((n : Int) < (x.length : Int))) = _
        by_cases h1 : x.length = n
        · rw [h1]; simp
        · rw [show (x.length == n) = false by simpa using h1]
          by_cases h2 : (x.length : Int) < n
          · simp [h2]
          · have h3 : (n : Int) < (x.length : Int) := by omega
            simp [h3]
      simp only [e] at z
      exact z

theorem key_str : KeyR X (.type "str") (rSortStr X.K) := by
  intro pins s σ H x u Q I ru h
  obtain ⟨a, xs, rfl, hs, q⟩ := h
  obtain rfl : u = Value.ref a := ru
  refine strs_key (κ := PyProof.Rows.strKind) (kf := fun x => x.cps.toList) (T := fun k => ∃ z t, k = Value.str z t) strKind_oneLt I hs (fun x => rfl) (fun z hz t s' => ?_) (fun ks hk h2 => ?_) fun ys p y2 y3 y4 hp => ?_
  · exact PySem.P.str_of_str ⟨⟨s'.toks, rfl⟩, rfl, _, _, rfl⟩
  · obtain ⟨kz, hI⟩ : ∃ kz, StrsAre ks kz := ⟨_, strsAre_map ks hk⟩
    match ks, h2, hI with
    | k1 :: k2 :: r, _, hI => exact keyKind_strs hI
  · refine q ys p y2 (y3.imp fun {x y} hxy => ?_) hp
    have z : decide (y.cps.toList < x.cps.toList) = false := hxy
    exact of_decide_eq_false z
end
end TS
end
/-! TC1 -/
set_option linter.all false
set_option maxRecDepth 100000
set_option maxHeartbeats 4000000
noncomputable section
namespace TS
open PySem PySem.Spec PyProof.Rows L2

/-! ### one turn of any comprehension -/
/-- the last clause's turn: an item is laid down by «lay» -/
def turnL (t i : Expr) (ifs : List Expr) (lay : Sem Unit) (nxt : Code) (it : Value) (env : Env) : Sem PySem.Fin :=
  standAt i.pos >>= fun _ => pyNext it >>= fun r => match r with
    | none => pure (.done .next)
    | some v => letOwnedTupleGo t it v >>= fun _ => assign t env v >>= fun _ => testsOf ifs env >>= fun ok =>
      if ok = true then lay >>= fun _ => again nxt else again nxt
/-- the first clause's turn, a second one behind it -/
def turnO (t i : Expr) (ifs : List Expr) (i1 e : Expr) (acc : Value) (nxt : Code) (it : Value) (env : Env) : Sem PySem.Fin :=
  standAt i.pos >>= fun _ => pyNext it >>= fun r => match r with
    | none => pure (.done .next)
    | some v => letOwnedTupleGo t it v >>= fun _ => assign t env v >>= fun _ => testsOf ifs env >>= fun ok =>
      if ok = true then eval i1 env >>= fun x => standAt i1.pos >>= fun _ => foldedSetIterable i1 env x >>= fun x => holding [x] (pyIter x) >>= fun it1 => runOwn (.compStart e 1 it1 acc env) env >>= fun _ => again nxt
      else again nxt

section
variable {P : Program} {w : World} {A : Around} {R : Result → Shared → Prop} {s : Shared} {env : Env} {t i : Expr} {ifs : List Expr} {it acc : Value}

theorem loop_of {c : Code} {lay : Sem Unit} (hq : c.quiet = true) (hA : A.under c = A) (hden : (model P w).den c = (turnL t i ifs lay c it env).onRaise (fun x => noteFrame x env >>= fun _ => theTreesLotGoes x)) (J : Nat → Shared → Prop)
    (turn : ∀ n s, J n s → wpAny (model P w) A (pyNext it) (fun r s1 => match r with
      | none => R (.ok .next) s1
      | some v => wpAny (model P w) A (letOwnedTupleGo t it v) (fun _ s2 => wpAny (model P w) A (assign t env v) (fun _ s3 => wpAny (model P w) A (testsOf ifs env) (fun ok s4 =>
          if ok = true then wpAny (model P w) A lay (fun _ s5 => ∃ m, m < n ∧ J m s5) (notedBy (model P w) A env fun e s' => R (.error e) s') s4
          else ∃ m, m < n ∧ J m s4) (notedBy (model P w) A env fun e s' => R (.error e) s') s3) (notedBy (model P w) A env fun e s' => R (.error e) s') s2) (notedBy (model P w) A env fun e s' => R (.error e) s') s1)
      (notedBy (model P w) A env fun e s' => R (.error e) s') s) (n : Nat) (h : J n s) : codeAny (model P w) A c R s := by
  refine codeAny_loop hq J (fun n s hJ => ?_) n h
  rw [hA, hden]
  refine wpAny_noted ?_
  unfold turnL
  refine wpAny_bind (wpAny_standAt (wpAny_bind (wpAny_mono (turn n s hJ) (fun r s1 h1 => ?_) fun _ _ z => z)))
  cases r with
  | none => exact wpAny_pure h1
  | some v =>
    refine wpAny_bind (wpAny_mono h1 (fun _ s2 h2 => wpAny_bind (wpAny_mono h2 (fun _ s3 h3 => wpAny_bind (wpAny_mono h3 (fun ok s4 h4 => ?_) fun _ _ z => z)) fun _ _ z => z)) fun _ _ z => z)
    cases ok with
    | false => exact wpAny_pure ⟨rfl, h4⟩
    | true => exact wpAny_bind (wpAny_mono h4 (fun _ s5 h5 => wpAny_pure ⟨rfl, h5⟩) fun _ _ z => z)
end

section
variable {P : Program} {w : World} {A : Around} {it acc : Value} {env : Env} {elt kx vx t i t1 i1 : Expr} {ifs ifs1 : List Expr} {scope : Scope} {pos : Pos}
/-! how each form lays its items -/
def layList (elt : Expr) (acc : Value) (env : Env) : Sem Unit := eval elt env >>= fun x => call (.builtin "list.append") [acc, x] >>= fun _ => pure ()
def laySet (elt : Expr) (acc : Value) (env : Env) : Sem Unit := eval elt env >>= fun x => standAt elt.pos >>= fun _ => call (.builtin "set.add") [acc, x] >>= fun _ => pure ()

theorem den_list1 : (model P w).den (.compLoop (.ListComp elt [⟨t, i, ifs, 0⟩] scope pos) 0 it acc env) =
    (turnL t i ifs (layList elt acc env) (.compLoop (.ListComp elt [⟨t, i, ifs, 0⟩] scope pos) 0 it acc env) it env).onRaise (fun x => noteFrame x env >>= fun _ => theTreesLotGoes x) := rfl
theorem den_set1 : (model P w).den (.compLoop (.SetComp elt [⟨t, i, ifs, 0⟩] scope pos) 0 it acc env) =
    (turnL t i ifs (laySet elt acc env) (.compLoop (.SetComp elt [⟨t, i, ifs, 0⟩] scope pos) 0 it acc env) it env).onRaise (fun x => noteFrame x env >>= fun _ => theTreesLotGoes x) := rfl
theorem den_list2 : (model P w).den (.compLoop (.ListComp elt [⟨t, i, ifs, 0⟩, ⟨t1, i1, ifs1, 0⟩] scope pos) 1 it acc env) =
    (turnL t1 i1 ifs1 (layList elt acc env) (.compLoop (.ListComp elt [⟨t, i, ifs, 0⟩, ⟨t1, i1, ifs1, 0⟩] scope pos) 1 it acc env) it env).onRaise (fun x => noteFrame x env >>= fun _ => theTreesLotGoes x) := rfl
theorem den_set2 : (model P w).den (.compLoop (.SetComp elt [⟨t, i, ifs, 0⟩, ⟨t1, i1, ifs1, 0⟩] scope pos) 1 it acc env) =
    (turnL t1 i1 ifs1 (laySet elt acc env) (.compLoop (.SetComp elt [⟨t, i, ifs, 0⟩, ⟨t1, i1, ifs1, 0⟩] scope pos) 1 it acc env) it env).onRaise (fun x => noteFrame x env >>= fun _ => theTreesLotGoes x) := rfl
theorem den_list2o : (model P w).den (.compLoop (.ListComp elt [⟨t, i, ifs, 0⟩, ⟨t1, i1, ifs1, 0⟩] scope pos) 0 it acc env) =
    (turnO t i ifs i1 (.ListComp elt [⟨t, i, ifs, 0⟩, ⟨t1, i1, ifs1, 0⟩] scope pos) acc (.compLoop (.ListComp elt [⟨t, i, ifs, 0⟩, ⟨t1, i1, ifs1, 0⟩] scope pos) 0 it acc env) it env).onRaise (fun x => noteFrame x env >>= fun _ => theTreesLotGoes x) := rfl
theorem den_set2o : (model P w).den (.compLoop (.SetComp elt [⟨t, i, ifs, 0⟩, ⟨t1, i1, ifs1, 0⟩] scope pos) 0 it acc env) =
    (turnO t i ifs i1 (.SetComp elt [⟨t, i, ifs, 0⟩, ⟨t1, i1, ifs1, 0⟩] scope pos) acc (.compLoop (.SetComp elt [⟨t, i, ifs, 0⟩, ⟨t1, i1, ifs1, 0⟩] scope pos) 0 it acc env) it env).onRaise (fun x => noteFrame x env >>= fun _ => theTreesLotGoes x) := rfl
end

section
variable {P : Program} {w : World} {A : Around} {R : Result → Shared → Prop} {s : Shared} {env : Env} {t i i1 e : Expr} {ifs : List Expr} {it acc : Value}
theorem loop_ofO {c : Code} (hq : c.quiet = true) (hA : A.under c = A) (hden : (model P w).den c = (turnO t i ifs i1 e acc c it env).onRaise (fun x => noteFrame x env >>= fun _ => theTreesLotGoes x)) (hs : ∀ x, foldedSetIterable i1 env x = pure x) (J : Nat → Shared → Prop)
    (turn : ∀ n s, J n s → wpAny (model P w) A (pyNext it) (fun r s1 => match r with
      | none => R (.ok .next) s1
      | some v => wpAny (model P w) A (letOwnedTupleGo t it v) (fun _ s2 => wpAny (model P w) A (assign t env v) (fun _ s3 => wpAny (model P w) A (testsOf ifs env) (fun ok s4 =>
          if ok = true then wpAny (model P w) A (eval i1 env) (fun x s5 => wpAny (model P w) A (pyIter x) (fun it1 s6 => codeAny (model P w) A (.compStart e 1 it1 acc env) (fun r s' => match r with
              | .ok _ => ∃ m, m < n ∧ J m s'
              | .error _ => False) s6) (notedBy (model P w) A env fun e s' => R (.error e) s') s5) (notedBy (model P w) A env fun e s' => R (.error e) s') s4
          else ∃ m, m < n ∧ J m s4) (notedBy (model P w) A env fun e s' => R (.error e) s') s3) (notedBy (model P w) A env fun e s' => R (.error e) s') s2) (notedBy (model P w) A env fun e s' => R (.error e) s') s1)
      (notedBy (model P w) A env fun e s' => R (.error e) s') s) (n : Nat) (h : J n s) : codeAny (model P w) A c R s := by
  refine codeAny_loop hq J (fun n s hJ => ?_) n h
  rw [hA, hden]
  refine wpAny_noted ?_
  unfold turnO
  refine wpAny_bind (wpAny_standAt (wpAny_bind (wpAny_mono (turn n s hJ) (fun r s1 h1 => ?_) fun _ _ z => z)))
  cases r with
  | none => exact wpAny_pure h1
  | some v =>
    refine wpAny_bind (wpAny_mono h1 (fun _ s2 h2 => wpAny_bind (wpAny_mono h2 (fun _ s3 h3 => wpAny_bind (wpAny_mono h3 (fun ok s4 h4 => ?_) fun _ _ z => z)) fun _ _ z => z)) fun _ _ z => z)
    cases ok with
    | false => exact wpAny_pure ⟨rfl, h4⟩
    | true =>
      refine wpAny_bind (wpAny_mono h4 (fun x s5 h5 => wpAny_bind (wpAny_standAt (wpAny_bind (wpAny_of_eq (hs x) (wpAny_bind (wpAny_holding (wpAny_mono h5 (fun it1 s6 h6 => ?_) fun _ _ z => z))))))) fun _ _ z => z)
      refine wpAny_bind (wpAny_runOwn ?_)
      rw [Around.mark_none]
      refine codeAny_mono h6 fun r s' hr => ?_
      cases r with
      | ok f => exact wpAny_pure ⟨rfl, hr⟩
      | error x => exact hr.elim
end
end TS
end
/-! TC2 -/
set_option linter.all false
set_option maxRecDepth 100000
set_option maxHeartbeats 4000000
noncomputable section
namespace TS
open PySem PySem.Spec PyProof.Rows L2

/-! ### an exception leaves a comprehension's block -/
section
variable {X : Cx} {pins : List (Addr × Obj)} {σ : L2.St} {H : Hp} {s s' : Shared} {E : XK} {u : Value}

/-- what a call's exception leaves: the ground B, a state sI of ours without the exception's own objects -/
theorem air_of_call (I : Inv X pins σ H s) (c : L2.CX X.prog X.w X.stack H s E u s') :
    ∃ (a : Addr) (B : Heap) (sI : Shared) (H' : Hp) (cls : Value) (d : Option Addr), u = .ref a ∧ Inv X pins σ H' sI ∧ (∀ b o, sI.heap.get? b = some o → b ∉ frs X.stack → B.get? b = some o) ∧ sI.heap.UpToSlots s'.heap ∧
      HandSPX.FlyingZ B X.stack a (Zc cls d) s'.heap ∧ H' a = none ∧ s'.os = sI.os ∧ AllBare s'.gens ∧ E cls d H' ∧
      (∀ b o, s.heap.get? b = some o → H b = none → b ∉ frs X.stack → B.get? b = some o) ∧ ∀ b o, s.heap.get? b = some o → H b = none → H' b = none := by
  obtain ⟨a, B, H', cls, d, e, fl, hok, ub, na, os, ag, hE⟩ := c
  obtain ⟨G, yes, no⟩ := restrict s'.heap fun b => decide (b ∈ frs X.stack) || (B.get? b).isSome
  have onB : ∀ {b o}, B.get? b = some o → G.get? b = some o := fun {b o} q => (yes b (by simp [q])).trans (fl.1 b o q)
  have onF : ∀ {b}, b ∈ frs X.stack → G.get? b = s'.heap.get? b := fun {b} q => yes b (by simp [q])
  have back : ∀ {b o}, G.get? b = some o → s'.heap.get? b = some o ∧ (b ∉ frs X.stack → B.get? b = some o) := by
    intro b o q
    by_cases hb : b ∈ frs X.stack
    · exact ⟨(onF hb) ▸ q, fun z => absurd hb z⟩
    · cases hB : B.get? b with
      | none => rw [no b (by simp [hb, hB])] at q; cases q
      | some o' =>
        have z := onB hB
        rw [q] at z; cases z
        exact ⟨fl.1 b _ hB, fun _ => rfl⟩
  refine ⟨a, B, { s with heap := G, gens := s'.gens, drawn := s'.drawn, toks := s'.toks }, H', cls, d, e, ?_, fun b o q hb => (back q).2 hb, Heap.UpToSlots.of_keeps fun b o q => (back q).1, fl, na, os, ag, hE, ub.keep, ub.free⟩
  refine I.call (ch := []) ⟨fun b o q n hb _ => onB (ub.keep b o q n hb), ?_, fun b o q n _ => ub.free b o q n, ?_, ub.tups, ub.frzs, ub.tbls⟩ (hok.kept fun b o q => onB q) ag (fun _ z => nomatch z)
  · intro b o q n hb _
    obtain ⟨sl, z⟩ := ub.slot b o q hb
    exact ⟨sl, (onF hb).trans z⟩
  · intro b o q _
    by_cases hb : b ∈ frs X.stack
    · obtain ⟨sl, z⟩ := ub.slot b o q hb
      exact ⟨_, (onF hb).trans z⟩
    · obtain ⟨o', z⟩ := ub.there b o q hb
      exact ⟨o', onB z⟩

theorem tracedZ_but {h h' B B' : Heap} {e C : Addr} {Z : Obj → Prop} {fl : Value} {m : Str → Option Value} (t : HandSPX.TracedZ h B e Z fl) (hn : h.Ns C m) (hs : Heap.SameBut C h h') (hB : ∀ b, B.get? b = none → B'.get? b = none) : HandSPX.TracedZ h' B' e Z fl := by
  obtain ⟨oe, vs, T, oT, ts, he, hz, hd, h1, hT0, hTe, hT, hdT, h3⟩ := t
  obtain ⟨oC, es, ep, hC, hdC, _⟩ := hn
  have ne : ∀ {b o vs}, h.get? b = some o → o.data = .fields vs → b ≠ C := fun {b o vs} q hv z => by
    rw [z, hC] at q; cases q; rw [hdC] at hv; cases hv
  exact ⟨oe, vs, T, oT, ts, (hs.2 e (ne he hd)).trans he, hz, hd, h1, hB T hT0, hTe, (hs.2 T (ne hT hdT)).trans hT, hdT, h3⟩

/-- out of a call in a comprehension's block: the frame is noted, the block's names go, the exception goes on -/
theorem comp_fails {W : WX} {ce : Env} {m : Str → Option Value} (hst : X.stack = X.env :: X.outer) (hf : X.env.frame = some X.env.locals) (hcf : ce.frame = X.env.frame) (tk : Takes X W) (I : Inv X pins σ H s)
    (hn : s.heap.Ns ce.locals m) (fp : FpOk X pins H ce.locals) (hW : ∀ cls d H', E cls d H' → W cls d σ H') (c : L2.CX X.prog X.w X.stack H s E u s') :
    notedBy (model X.prog X.w) X.A ce (CompFails (model X.prog X.w) X.A X.xe ce) u s' := by
  obtain ⟨a, B, sI, H', cls, d, rfl, I1, nb, up, fl, na, os, ag, hE, kp, fr⟩ := air_of_call I c
  obtain ⟨f0, f1, f2, f3, f4, f5⟩ := fp
  generalize hC : ce.locals = C at hn f0 f1 f2 f3 f4 f5
  have hCs : C ∉ frs X.stack := fun z => by
    rcases List.mem_cons.mp (I.stkSub C z) with q | q
    · exact f1 q
    · exact f2 q
  obtain ⟨oC, es, ep, gC, dC, kC⟩ := hn
  have BC := kp C oC gC f0 hCs
  have nC := fr C oC gC f0
  have hfr : X.A.frames = some (X.env :: X.outer) := by rw [I.ok.frames, hst]
  show wpAny _ _ (noteFrame _ ce) _ _ _
  rw [noteFrame_env _ hcf]
  rw [hst] at fl
  refine HandSPX.looks_onZ Zc.steady hfr hf fl fun h1 hh up1 => ?_
  have n1 : h1.Ns C m := ⟨oC, es, ep, hh.1 C oC BC, dC, kC⟩
  refine ⟨m, by rw [hC]; exact n1, fun h2 m2 n2 sb => ?_⟩
  rw [hC] at n2 sb
  generalize hB' : PySem.W.hideAll B [C] = B'
  have B'of : ∀ {b o}, B'.get? b = some o → b ≠ C ∧ B.get? b = some o := fun {b o} q => by
    rw [← hB'] at q
    refine ⟨fun z => ?_, PySem.W.of_hideAll _ q⟩
    rw [z, PySem.W.hideAll_none [C] (by simp)] at q; cases q
  have toB' : ∀ {b o}, B.get? b = some o → b ≠ C → B'.get? b = some o := fun {b o} q z => by
    rw [← hB']; exact PySem.W.hideAll_get _ q (by simpa using z)
  have noB' : ∀ b, B.get? b = none → B'.get? b = none := fun b q => by
    cases z : B'.get? b with
    | none => rfl
    | some o => rw [(B'of z).2] at q; cases q
  have hd2 : HandSPX.HeldZ B' (X.env :: X.outer) a (Zc cls d) X.env.locals h2 := by
    obtain ⟨x1, x2, x3, x4⟩ := hh
    have ff : h2.FunFrames B (X.env :: X.outer) := Heap.FunFrames.sameBut sb n2 x3
    refine ⟨fun b o q => ?_, noB' a x2, funFrames_none ff fun b hb => ?_, tracedZ_but x4 n1 sb noB'⟩
    · exact (sb.2 b (B'of q).1).trans (x1 b o (B'of q).2)
    · exact noB' b (ff.mem hb).1
  obtain ⟨oe, vs, T, oT, ts, he, hz, hd, h1', r⟩ := hd2.2.2.2
  unfold PySem.passOn
  refine wpAny_bind (wpAny_field he hd h1' ?_)
  rw [if_neg (show ¬ ((Value.ref T == Value.none) = true) from by simp)]
  rw [hcf, hf]
  refine wpAny_bind (HandSPX.setFlight_onZ hd2 fun h3 hd3 up3 => wpAny_throw ?_)
  refine tk _ _ ?_
  have I2 : Inv X pins σ H' { sI with heap := PySem.W.hideAll sI.heap [C], toks := sI.toks } := I1.turned (it := C) (t' := sI.toks) (fun b o z q => PySem.W.hideAll_get _ q (by simpa using z)) nC f1 f3 f4 f5
  have hid : ∀ {b o}, (PySem.W.hideAll sI.heap [C]).get? b = some o → b ≠ C ∧ sI.heap.get? b = some o := fun {b o} q => by
    refine ⟨fun z => ?_, PySem.W.of_hideAll _ q⟩
    rw [z, PySem.W.hideAll_none [C] (by simp)] at q; cases q
  refine ⟨a, B', _, pins, σ, H', cls, d, rfl, I2, fun b o q hb => ?_, ?_, ?_, na, os, ag, hW _ _ _ hE⟩
  · have z := hid q
    exact toB' (nb b o z.2 hb) z.1
  · intro b o q hv
    have z := hid q
    obtain ⟨s1, e1⟩ := up b o z.2 hv
    obtain ⟨s2, e2⟩ := up1 b _ e1 hv
    obtain ⟨s3, e3⟩ := up3 b _ ((sb.2 b z.1).trans e2) hv
    exact ⟨s3, e3⟩
  · rw [hst]
    exact .inr (.inr hd3)
end
end TS
end
/-! TC3 -/
set_option linter.all false
set_option maxRecDepth 100000
set_option maxHeartbeats 4000000
noncomputable section
namespace TS
open PySem PySem.Spec PyProof.Rows L2 PySem.Froz

/-! ### what a comprehension gathers: a list, a set of texts -/
inductive Kd where
  | lst | set
def Kd.ini (P : Program) (w : World) : Kd → Addr → HO
  | .lst, _ => .lst []
  | .set, D => SetS P w D []
/-- what it asks that y is gathered at D -/
def Kd.add (P : Program) (w : World) : Kd → Addr → Hp → V → (Hp → Prop) → Prop
  | .lst, D, H, y, N => ∃ acc, H D = some (.lst acc) ∧ acc.length < sizeLine ∧ N (upd H D (.lst (acc ++ [y])))
  | .set, D, H, y, N => ∃ l k, y = .str k ∧ H D = some (SetS P w D l) ∧ l.length + 1 < scanBound ∧ N (upd H D (SetS P w D (if k ∈ l then l else k :: l)))
def Kd.ex : Kd → Expr → List Comprehension → Scope → Pos → Expr
  | .lst, e, g, sc, p => .ListComp e g sc p
  | .set, e, g, sc, p => .SetComp e g sc p
def Kd.lay : Kd → Expr → Value → Env → Sem Unit
  | .lst => layList
  | .set => laySet
def Kd.new : Kd → Sem Value
  | .lst => newList []
  | .set => newSet (.type "set")
def Kd.obj (w : World) : Kd → Obj
  | .lst => { cls := .type "list", data := .seq ([] : List Value).toArray }
  | .set => sObj "set" (fresh w)

section
variable {P : Program} {w : World}
theorem Kd.eval {kd : Kd} {elt : Expr} {g : List Comprehension} {scope : Scope} {pos : Pos} {env : Env} : PySem.eval (kd.ex elt g scope pos) env = comprehension (kd.ex elt g scope pos) scope env (firstIterPos g pos) kd.new (firstAsync g) (firstIter g env) := by
  cases kd <;> rfl
theorem Kd.new_ok {kd : Kd} {A : Around} {E : Value → Shared → Prop} {s : Shared} {Q : Value → Shared → Prop} (h : Q (.ref s.heap.objs.size) { s with heap := s.heap.push (kd.obj w) }) : wpAny (model P w) A kd.new Q E s := by
  cases kd with
  | lst => exact wpAny_newObj_type h (by show 0 ≤ sizeLine; decide)
  | set => exact PpSet.newSet_ok h
theorem Kd.ini_ok {kd : Kd} {H : Hp} {h : Heap} {D : Addr} (hD : h.get? D = some (kd.obj w)) : ObjOk P w H h D (kd.ini P w D) := by
  cases kd with
  | lst => exact ⟨Nat.zero_le _, [], 0, .nil, hD⟩
  | set => exact setS_new hD (fresh_ok P w) (fresh_walk w)
theorem Kd.noFreed {kd : Kd} : (kd.obj w).isFreed = false := by cases kd <;> rfl
end

theorem set_add_ok {Y : Cx} {pins : List (Addr × Obj)} {σ : L2.St} {H : Hp} {s : Shared} {D : Addr} {l : List PySem.Str} {k : PySem.Str} {tk : Tok} {E : Value → Shared → Prop} {N : Hp → Prop} (I : Inv Y pins σ H s) (hD : H D = some (SetS Y.prog Y.w D l)) (hb : l.length + 1 < scanBound)
    (h : N (upd H D (SetS Y.prog Y.w D (if k ∈ l then l else k :: l)))) : wpAny (model Y.prog Y.w) Y.A (call (.builtin "set.add") [.ref D, .str k tk]) (fun _ s' => ∃ H', Inv Y pins σ H' s' ∧ N H') E s := by
  obtain ⟨Ds, hDs, _⟩ := setS_get I hD
  refine wpAny_call_entry F.slot_set_add ⟨_, hDs, rfl⟩ F.entry_set_add ?_ (F.args_set_add_2 _ _)
  unfold Builtin.«set.add» Builtin.Frozenset.oneOther
  simp only [List.isEmpty_nil, bind_assoc]
  unfold Builtin.Frozenset.addrOf setAdd
  refine wpAny_bind (wpAny_pure ?_)
  try dsimp only
  refine wpAny_bind (wpAny_pure ?_)
  try dsimp only
  refine wpAny_bind (wpAny_holding (wpAny_bind (wpAny_pyHash_str ?_)))
  refine addS (I.tok _) hD hb fun b s' I' => ?_
  show wpAny _ _ (ret Value.none) _ _ _
  exact wpAny_pure ⟨_, rfl, _, I', h⟩

theorem lay_ok (kd : Kd) {Y : Cx} {pins : List (Addr × Obj)} {σ : L2.St} {H : Hp} {s : Shared} {D : Addr} {elt : Expr} {te : TE} {N : Hp → Prop} (he : PE Y elt te) (I : Inv Y pins σ H s) (h : te σ H fun y H1 => kd.add Y.prog Y.w D H1 y N) :
    wpAny (model Y.prog Y.w) Y.A (kd.lay elt (.ref D) Y.env) (fun _ s' => ∃ H', Inv Y pins σ H' s' ∧ N H') Y.xe s := by
  cases kd with
  | lst =>
    refine wpAny_bind (thn (he.run _ s σ H _ I h) fun z s1 ⟨y, H1, I1, r1, acc, hD, hz, nx⟩ => ?_)
    refine wpAny_bind (app_ok I1 hD hz r1 fun s2 I2 => wpAny_pure ⟨_, I2, nx⟩)
  | set =>
    refine wpAny_bind (thn (he.run _ s σ H _ I h) fun z s1 ⟨y, H1, I1, r1, l, k, ey, hD, hz, nx⟩ => wpAny_bind (wpAny_standAt ?_))
    subst ey
    obtain ⟨tk, rfl⟩ := r1
    refine wpAny_bind (wpAny_mono (set_add_ok (E := Y.xe) I1 hD hz nx) (fun _ s2 q => wpAny_pure q) fun _ _ z => z)

/-! ### the block's context -/
abbrev bx (X : Cx) (xb : Env → Value → Shared → Prop) (s : Shared) (H : Hp) (scope : Scope) (ce : Env) (fp : List Addr) : Cx := (X.blk s H scope ce fp).wish (xb ce)
abbrev xfail (X : Cx) : Env → Value → Shared → Prop := fun ce => notedBy (model X.prog X.w) X.A ce (CompFails (model X.prog X.w) X.A X.xe ce)
abbrev xnone : Env → Value → Shared → Prop := fun _ _ _ => False

section
variable {X : Cx} {pins : List (Addr × Obj)} {σ σ' : L2.St} {H0 H : Hp} {s0 s : Shared} {scope : Scope} {cl : List (PySem.Str × Addr)} {fp : List Addr}

/-- from the block's view to the def's -/
theorem blk_back {xb : Env → Value → Shared → Prop} {ce : Env} {pn : List (Addr × Obj)} (I0 : Inv X pins σ H0 s0) (hfp : ∀ b ∈ fp, FpOk X pins H0 b ∧ b < s0.heap.objs.size) (I : Inv (bx X xb s0 H0 scope ce fp) pn σ' H s) : Inv X pins σ H s :=
  I0.call' (ch := fp) I.os I.base I.hok I.bare fun b hb => ⟨(hfp b hb).1.2.2.2.1, (hfp b hb).1.2.1, (hfp b hb).1.2.2.2.2.1, (hfp b hb).1.2.2.2.2.2⟩

/-- what a call in the block lets out is taken -/
theorem blk_passes {Eo : XK} (hst : X.stack = X.env :: X.outer) (hf : X.env.frame = some X.env.locals) (tk : Takes X (fun cls d _ H => Eo cls d H)) (I0 : Inv X pins σ H0 s0) (hfp : ∀ b ∈ fp, FpOk X pins H0 b ∧ b < s0.heap.objs.size) :
    Passes (L2.CX X.prog X.w) (bx X (xfail X) s0 H0 scope (compEnvC scope cl s0.heap.objs.size X.env) fp) Eo := by
  intro pn σ1 H1 s1 u s' I1 c
  obtain ⟨m, hn, _⟩ := I1.loc
  exact comp_fails hst hf rfl tk (blk_back I0 hfp I1) hn (I0.fpOk (Nat.le_refl _) I1.free) (fun _ _ _ z => z) c
end

/-! ### one clause -/
def tKc (P : Program) (w : World) (kd : Kd) (wi : TI) (g : TG) (tt : TT) (te : TE) (vs : List Nat) : TE := fun σ H Q => wi σ H fun J H1 => ∀ D, H1 D = none → ∃ W : Nat → Nat → Hp → Prop, (∃ m, W 0 m (upd H1 D (kd.ini P w D))) ∧ ∀ i m H, W i m H →
  (J.stop i H ∧ Q (.ref D) H) ∨ (J.go i H ∧ ∃ Nx : Hp → Prop, (∀ H', Nx H' → ∃ m', m' < m ∧ W (i + 1) m' H') ∧ ∀ x H', J.yld i H x H' → g x (wipe σ vs) H' fun σ2 H2 => wipe σ2 vs = wipe σ vs ∧ tt σ2 H2 fun b H3 =>
    if b = true then te σ2 H3 fun y H4 => kd.add P w D H4 y Nx else Nx H3)

section
variable {X : Cx} {kd : Kd} {elt tg iter tg1 iter1 : Expr} {ifs ifs1 : List Expr} {scope : Scope} {own : List (PySem.Str × Nat)} {vs1 : List Nat} {pos : Pos} {wi wi1 : TI} {g g1 : TG} {tt tt1 : TT} {te : TE} {xb : Env → Value → Shared → Prop} {Pz : Cx → Prop}

theorem kc_start {acc : Value} {g : Comprehension} {gs : List Comprehension} {P : Program} {w : World} {A : Around} {R : Result → Shared → Prop} {s : Shared} {it : Value} {env : Env}
    (hg : (⟨g.target, g.iter, g.ifs, 0⟩ : Comprehension) = g) (h0 : codeAny (model P w) A (.compLoop (kd.ex elt (g :: gs) scope pos) 0 it acc env) R s)
    (h : wpAny (model P w) A (pyIter it) (fun it' s' => codeAny (model P w) A (.compLoop (kd.ex elt (g :: gs) scope pos) 0 it' acc env) R s') (notedBy (model P w) A env fun x s' => R (.error x) s') s) :
    codeAny (model P w) A (.compStart (kd.ex elt (g :: gs) scope pos) 0 it acc env) R s := by
  rw [← hg] at h0 h ⊢
  cases kd with
  | lst => exact codeAny_compStart_list h0 h
  | set => exact PpSet.codeAny_compStart_set h0 h

theorem kc_den1 {P : Program} {w : World} {t i : Expr} {it acc : Value} {env : Env} : (model P w).den (.compLoop (kd.ex elt [⟨t, i, ifs, 0⟩] scope pos) 0 it acc env) =
    (turnL t i ifs (kd.lay elt acc env) (.compLoop (kd.ex elt [⟨t, i, ifs, 0⟩] scope pos) 0 it acc env) it env).onRaise (fun x => noteFrame x env >>= fun _ => theTreesLotGoes x) := by
  cases kd
  · exact den_list1
  · exact den_set1
end
end TS
end
/-! TC4 -/
set_option linter.all false
set_option maxRecDepth 100000
set_option maxHeartbeats 4000000
noncomputable section
namespace TS
open PySem PySem.Spec PyProof.Rows L2 PySem.Froz

section
variable {X : Cx} {kd : Kd} {elt tg iter tg1 iter1 : Expr} {ifs ifs1 : List Expr} {scope : Scope} {own : List (PySem.Str × Nat)} {vs1 : List Nat} {pos : Pos} {wi wi1 : TI} {g g1 : TG} {tt tt1 : TT} {te : TE} {xb : Env → Value → Shared → Prop}

/-- the block's end: its names go, the gathered thing is the value -/
theorem kc_end {pins pn : List (Addr × Obj)} {σ σ' : L2.St} {H0 H' : Hp} {s0 s' : Shared} {cl : List (PySem.Str × Addr)} {fp : List Addr} {Q : VK} {D : Addr} (I0 : Inv X pins σ H0 s0) (hfp : ∀ b ∈ fp, FpOk X pins H0 b ∧ b < s0.heap.objs.size)
    (I : Inv (bx X xb s0 H0 scope (compEnvC scope cl s0.heap.objs.size X.env) fp) pn σ' H' s') (q : Q (.ref D) H') :
    compEnds (model X.prog X.w) X.A X.xe none (EP X pins σ Q) (.ref D) (compEnvC scope cl s0.heap.objs.size X.env) (.ok .next) s' := by
  have IX := blk_back I0 hfp I
  obtain ⟨m, hn, _⟩ := I.loc
  obtain ⟨f0, f1, f2, f3, f4, f5⟩ := I0.fpOk (H' := H') (Nat.le_refl _) I.free
  exact ⟨m, hn, fun h2 sb => ⟨.ref D, H', IX.turned (t' := s'.toks) (fun b o hb e => (sb.2 b hb).trans e) f0 f1 f3 f4 f5, rfl, q⟩⟩

/-- up to the first turn -/
theorem kc_open {gs : List Comprehension} {pins : List (Addr × Obj)} {σ : L2.St} {H : Hp} {s : Shared} {Q : VK} {R : It → Hp → Prop} (hN : X.N.Nodup) (I : Inv X pins σ H s) (hi : PI X tg iter wi) (ok : BlkOk X.N X.env.scope scope own) (hs : ∀ x, foldedSetIterable iter X.env x = pure x)
    (h : wi σ H R)
    (go : ∀ (it D : Addr) (fp : List Addr) (tn : Nat → Heap → Prop) (J : It) (H2 : Hp) (s3 s4 : Shared) (cl : List (PySem.Str × Addr)), H2 D = none → R J H2 → Turn X.prog X.w X.K tg J fp it tn → Inv X pins σ (upd H2 D (kd.ini X.prog X.w D)) s3 →
      (∀ b ∈ fp, FpOk X pins (upd H2 D (kd.ini X.prog X.w D)) b ∧ b < s3.heap.objs.size) → tn 0 s4.heap → Inv (X.blk s3 (upd H2 D (kd.ini X.prog X.w D)) scope (compEnvC scope cl s3.heap.objs.size X.env) fp) [] (wipe σ (own.map (·.2))) (upd H2 D (kd.ini X.prog X.w D)) s4 →
      codeAny (model X.prog X.w) X.A (.compLoop (kd.ex elt (⟨tg, iter, ifs, 0⟩ :: gs) scope pos) 0 (.ref it) (.ref D) (compEnvC scope cl s3.heap.objs.size X.env)) (compEnds (model X.prog X.w) X.A X.xe none (EP X pins σ Q) (.ref D) (compEnvC scope cl s3.heap.objs.size X.env)) s4) :
    wpAny (model X.prog X.w) X.A (eval (kd.ex elt (⟨tg, iter, ifs, 0⟩ :: gs) scope pos) X.env) (EP X pins σ Q) X.xe s := by
  have hfree : ∀ y ∈ scope.names, y.2 = .free → ∃ c, X.env.cells.lookup y.1 = some c := fun y hy e => (ok.free y hy e).elim (fun k => I.ok.has _ (.inl k)) fun k => I.ok.has _ (.inr k)
  rw [Kd.eval]
  show wpAny _ _ (comprehension _ scope X.env _ kd.new false (eval iter X.env)) _ _ s
  refine comprehension_at (use := none) (g := ⟨tg, iter, ifs, 0⟩) (gs := gs) (by cases kd <;> rfl) hs (closure_ok hfree) ok.kind (fun y hy e => by rw [ok.uniq y hy, e]) ?_
  refine thn (hi.run pins s σ H _ I h) fun xv s1 hx => thn hx fun itv s2 h2 => ?_
  obtain ⟨it, fp, tn, J, H2, e, I2, T, st2, f2, q⟩ := h2
  subst e
  refine Kd.new_ok (newEnv_comp ?_)
  generalize hD : s2.heap.objs.size = D
  have hDn : H2 D = none := I2.hok.fresh (Nat.le_of_eq hD)
  generalize hs3 : ({ s2 with heap := s2.heap.push (kd.obj X.w) } : Shared) = s3
  have h3 : s3.heap = s2.heap.push (kd.obj X.w) := by rw [← hs3]
  have I3 : Inv X pins σ (upd H2 D (kd.ini X.prog X.w D)) s3 := by
    rw [← hs3]
    refine I2.laid (t' := s2.toks) (fun b o e => Heap.get?_push_of_some _ e) (Nat.le_of_eq hD) (Kd.ini_ok ?_)
    rw [← hD]
    exact Heap.get?_push_size _ Kd.noFreed
  have f3 : ∀ b ∈ fp, FpOk X pins (upd H2 D (kd.ini X.prog X.w D)) b ∧ b < s3.heap.objs.size := fun b hb => by
    obtain ⟨o, e, _⟩ := T.obj _ _ st2 b hb
    have hlt := Heap.lt_size e
    refine ⟨⟨?_, (f2 b hb).2⟩, by rw [h3, Heap.size_push]; exact Nat.lt_succ_of_lt hlt⟩
    rw [upd_ne (by rw [← hD]; exact Nat.ne_of_lt hlt)]
    exact (f2 b hb).1
  have st3 : tn 0 s3.heap := T.keep _ _ _ st2 fun b _ o e => by rw [h3]; exact Heap.get?_push_of_some _ e
  have I4 := block_start I3 ok hN f3
  have st4 : tn 0 (pushCells (s3.heap.push { cls := .type "dict", data := .dict #[] }) scope.names) := T.keep _ _ _ st3 fun b _ o e => pushCells_keeps _ _ _ _ (Heap.get?_push_of_some _ e)
  have z := go it D fp tn J H2 s3 _ (cellsFrom (s3.heap.objs.size + 1) scope.names (cloFrom X.env.cells scope.names [])) hDn q T I3 f3 st4 I4
  exact kc_start rfl z (T.self X.A 0 _ _ _ st4 z)

/-- a turn's beginning: the item has come -/
theorem pin_stat {σ' : L2.St} {H0 H' : Hp} {s0 s' : Shared} {ce : Env} {fp : List Addr} {pn : List (Addr × Obj)} (hpn : pn = []) (I : Inv (X.blk s0 H0 scope ce fp) pn σ' H' s') (hn : ∀ b ∈ fp, H' b = none) : ∀ b ∈ fp, FpOk (X.blk s0 H0 scope ce fp) pn H' b := fun b hb => by
  subst hpn
  exact ⟨hn b hb, (I.ok.exf b hb).1, I.ok.exfs b hb, .inl hb, fun x c e => (I.ok.exf b hb).2 x c e, fun p hp => absurd (show p ∈ ([] : List (Addr × Obj)) ++ [] from hp) (by simp)⟩

theorem kc_run {Pz : Cx → Prop} (hc : X.calm = true) (hN : X.N.Nodup) (hi : PI X tg iter wi) (ok : BlkOk X.N X.env.scope scope own)
    (hxb : ∀ ce u s', xb ce u s' → notedBy (model X.prog X.w) X.A ce (CompFails (model X.prog X.w) X.A X.xe ce) u s')
    (hz : ∀ (pins : List (Addr × Obj)) (σ : L2.St) (H : Hp) (s : Shared) (cl : List (PySem.Str × Addr)) (fp : List Addr), Inv X pins σ H s → (∀ b ∈ fp, FpOk X pins H b ∧ b < s.heap.objs.size) → Pz (bx X xb s H scope (compEnvC scope cl s.heap.objs.size X.env) fp))
    (hg : ∀ (s : Shared) (H : Hp) (C : Addr) (cl : List (PySem.Str × Addr)) (fp : List Addr), Pz (bx X xb s H scope (compEnvC scope cl C X.env) fp) → PG (bx X xb s H scope (compEnvC scope cl C X.env) fp) tg g)
    (ht : ∀ (s : Shared) (H : Hp) (C : Addr) (cl : List (PySem.Str × Addr)) (fp : List Addr), Pz (bx X xb s H scope (compEnvC scope cl C X.env) fp) → PTs (bx X xb s H scope (compEnvC scope cl C X.env) fp) ifs tt)
    (he : ∀ (s : Shared) (H : Hp) (C : Addr) (cl : List (PySem.Str × Addr)) (fp : List Addr), Pz (bx X xb s H scope (compEnvC scope cl C X.env) fp) → PE (bx X xb s H scope (compEnvC scope cl C X.env) fp) elt te)
    (hs : ∀ x, foldedSetIterable iter X.env x = pure x) : PE X (kd.ex elt [⟨tg, iter, ifs, 0⟩] scope pos) (tKc X.prog X.w kd wi g tt te (own.map (·.2))) := by
  refine ⟨fun pins s σ H Q I h => ?_⟩
  refine kc_open hN I hi ok hs h fun it D fp tn J H2 s3 s4 cl hDn q T I3 f3 st4 I4 => ?_
  obtain ⟨W, ⟨m0, w0⟩, turn⟩ := q D hDn
  have pz := hz pins σ _ s3 cl fp I3 f3
  have pg := hg s3 (upd H2 D (kd.ini X.prog X.w D)) s3.heap.objs.size cl fp pz
  have pt := ht s3 (upd H2 D (kd.ini X.prog X.w D)) s3.heap.objs.size cl fp pz
  have pe := he s3 (upd H2 D (kd.ini X.prog X.w D)) s3.heap.objs.size cl fp pz
  have kend := fun {σ' : L2.St} {H' : Hp} {s' : Shared} (I' : Inv (bx X xb s3 (upd H2 D (kd.ini X.prog X.w D)) scope (compEnvC scope cl s3.heap.objs.size X.env) fp) [] σ' H' s') (q' : Q (.ref D) H') => kc_end (D := D) (Q := Q) I3 f3 I' q'
  have nfp : ∀ b ∈ fp, (upd H2 D (kd.ini X.prog X.w D)) b = none := fun b hb => (f3 b hb).1.1
  generalize hce : compEnvC scope cl s3.heap.objs.size X.env = ce at I4 pg pt pe kend ⊢
  generalize hH3 : upd H2 D (kd.ini X.prog X.w D) = H3 at I3 I4 pg pt pe w0 nfp f3 kend
  refine loop_of (lay := kd.lay elt (.ref D) ce) (by cases kd <;> rfl) (by cases kd <;> rfl) kc_den1 (fun n s' => ∃ i H', Inv (X.blk s3 H3 scope ce fp) [] (wipe σ (own.map (·.2))) H' s' ∧ tn i s'.heap ∧ (∀ b ∈ fp, H' b = none) ∧ W i n H') ?_ m0 ⟨0, H3, I4, st4, nfp, w0⟩
  rintro n s5 ⟨i, H5, I5, st5, n5, w5⟩
  have up : ∀ {u : Value} {s' : Shared}, xb ce u s' → notedBy (model X.prog X.w) X.A ce (fun e s' => compEnds (model X.prog X.w) X.A X.xe none (EP X pins σ Q) (.ref D) ce (.error e) s') u s' := fun z => hxb ce _ _ z
  rcases turn i n H5 w5 with ⟨stop, qq⟩ | ⟨go, Nx, hNx, step⟩
  · refine thnF (T.done (X.blk s3 H3 scope ce fp) rfl rfl rfl hc i [] s5 _ H5 (fun _ _ => False) I5 (pin_stat rfl I5 n5) st5 stop) fun r s6 ⟨hr, I6⟩ => ?_
    subst hr
    exact kend (I6.wish (xb ce)) qq
  · refine thnF (T.item (X.blk s3 H3 scope ce fp) rfl rfl rfl hc i [] s5 _ H5 (fun _ _ => False) I5 (pin_stat rfl I5 n5) st5 go) fun r s6 ⟨u, hr, h6⟩ => ?_
    subst hr
    refine thnF h6 fun _ s7 ⟨x, H7, I7, r7, y7, st7, n7⟩ => ?_
    have I7' := (I7.pinned (pin_stat rfl I7 n7) (T.obj _ _ st7)).wish (xb ce)
    refine wpAny_mono (pg.run _ s7 _ H7 x u _ I7' r7 (step x H7 y7)) (fun _ s8 ⟨σ8, H8, I8, hw8, q8⟩ => ?_) fun _ _ z => up z
    refine wpAny_mono (pt.run _ s8 σ8 H8 _ I8 q8) (fun b s9 ⟨H9, I9, q9⟩ => ?_) fun _ _ z => up z
    -- the turn's end
    have fin : ∀ {s' : Shared} {H' : Hp}, Inv (bx X xb s3 H3 scope ce fp) ([] ++ pinsAt fp s7.heap) σ8 H' s' → Nx H' → ∃ m, m < n ∧ ∃ i H', Inv (X.blk s3 H3 scope ce fp) [] (wipe σ (own.map (·.2))) H' s' ∧ tn i s'.heap ∧ (∀ b ∈ fp, H' b = none) ∧ W i m H' := fun {s' H'} I' nx => by
      obtain ⟨m', hm, w'⟩ := hNx H' nx
      have pin' : ∀ b ∈ fp, ∀ o, s7.heap.get? b = some o → s'.heap.get? b = some o ∧ H' b = none := fun b hb o e =>
        let z := I'.pin (b, o) (List.mem_append_right _ (List.mem_append_right _ (mem_pinsAt hb e)))
        ⟨z.1, z.2.1⟩
      have hl : (wipe σ (own.map (·.2))).length = σ8.length := by rw [← hw8, wipe_length]
      refine ⟨m', hm, i + 1, H', ((I'.unwish).unpinned (pins := [])).weak hl (fun j v e => (wipe_some (hw8 ▸ e)).1), T.keep _ _ _ st7 fun b hb o e => (pin' b hb o e).1, fun b hb => ?_, w'⟩
      obtain ⟨o, e, _⟩ := T.obj _ _ st7 b hb
      exact (pin' b hb o e).2
    cases b with
    | false =>
      simp only [Bool.false_eq_true, if_false] at q9 ⊢
      exact fin I9 q9
    | true =>
      simp only [if_true] at q9 ⊢
      exact wpAny_mono (lay_ok kd pe I9 q9) (fun _ s' ⟨H', I', nx⟩ => fin I' nx) fun _ _ z => up z
end
end TS
end
/-! TC5 -/
set_option linter.all false
set_option maxRecDepth 100000
set_option maxHeartbeats 4000000
noncomputable section
namespace TS
open PySem PySem.Spec PyProof.Rows L2 PySem.Froz

/-- two clauses; vs: the block's names, vs1: those of the second target -/
def tKc2 (P : Program) (w : World) (kd : Kd) (wi : TI) (g : TG) (tt : TT) (wi1 : TI) (g1 : TG) (tt1 : TT) (te : TE) (vs vs1 : List Nat) : TE := fun σ H Q => wi σ H fun J H1 => ∀ D, H1 D = none → ∃ W : Nat → Nat → Hp → Prop, (∃ m, W 0 m (upd H1 D (kd.ini P w D))) ∧ ∀ i m H, W i m H →
  (J.stop i H ∧ Q (.ref D) H) ∨ (J.go i H ∧ ∃ Nx : Hp → Prop, (∀ H', Nx H' → ∃ m', m' < m ∧ W (i + 1) m' H') ∧ ∀ x H', J.yld i H x H' → g x (wipe σ vs) H' fun σ2 H2 => wipe σ2 vs = wipe σ vs ∧ tt σ2 H2 fun b H3 =>
    if b = true then wi1 σ2 H3 fun J1 H4 => ∃ W1 : Nat → Nat → Hp → Prop, (∃ m, W1 0 m H4) ∧ ∀ j k H, W1 j k H →
      (J1.stop j H ∧ Nx H) ∨ (J1.go j H ∧ ∃ Nx1 : Hp → Prop, (∀ H', Nx1 H' → ∃ k', k' < k ∧ W1 (j + 1) k' H') ∧ ∀ x H', J1.yld j H x H' → g1 x (wipe σ2 vs1) H' fun σ3 H5 => wipe σ3 vs1 = wipe σ2 vs1 ∧ tt1 σ3 H5 fun b H6 =>
        if b = true then te σ3 H6 fun y H7 => kd.add P w D H7 y Nx1 else Nx1 H6)
    else Nx H3)

section
variable {X : Cx} {kd : Kd} {elt tg iter tg1 iter1 : Expr} {ifs ifs1 : List Expr} {scope : Scope} {own : List (PySem.Str × Nat)} {vs1 : List Nat} {pos : Pos} {wi wi1 : TI} {g g1 : TG} {tt tt1 : TT} {te : TE} {xb : Env → Value → Shared → Prop}

theorem kc_den2 {P : Program} {w : World} {t i t1 i1 : Expr} {it acc : Value} {env : Env} : (model P w).den (.compLoop (kd.ex elt [⟨t, i, ifs, 0⟩, ⟨t1, i1, ifs1, 0⟩] scope pos) 1 it acc env) =
    (turnL t1 i1 ifs1 (kd.lay elt acc env) (.compLoop (kd.ex elt [⟨t, i, ifs, 0⟩, ⟨t1, i1, ifs1, 0⟩] scope pos) 1 it acc env) it env).onRaise (fun x => noteFrame x env >>= fun _ => theTreesLotGoes x) := by
  cases kd
  · exact den_list2
  · exact den_set2
theorem kc_den2o {P : Program} {w : World} {t i t1 i1 : Expr} {it acc : Value} {env : Env} : (model P w).den (.compLoop (kd.ex elt [⟨t, i, ifs, 0⟩, ⟨t1, i1, ifs1, 0⟩] scope pos) 0 it acc env) =
    (turnO t i ifs i1 (kd.ex elt [⟨t, i, ifs, 0⟩, ⟨t1, i1, ifs1, 0⟩] scope pos) acc (.compLoop (kd.ex elt [⟨t, i, ifs, 0⟩, ⟨t1, i1, ifs1, 0⟩] scope pos) 0 it acc env) it env).onRaise (fun x => noteFrame x env >>= fun _ => theTreesLotGoes x) := by
  cases kd
  · exact den_list2o
  · exact den_set2o
theorem set_start1 {prog : Program} {w : World} {A : Around} {R : Result → Shared → Prop} {s : Shared} {t0 i0 t1 i1 : Expr} {ifs0 ifs1 : List Expr} {it acc : Value} {env : Env} (h0 : codeAny (model prog w) A (.compLoop (.SetComp elt [⟨t0, i0, ifs0, 0⟩, ⟨t1, i1, ifs1, 0⟩] scope pos) 1 it acc env) R s)
    (h : wpAny (model prog w) A (pyIter it) (fun it' s' => codeAny (model prog w) A (.compLoop (.SetComp elt [⟨t0, i0, ifs0, 0⟩, ⟨t1, i1, ifs1, 0⟩] scope pos) 1 it' acc env) R s') (notedBy (model prog w) A env fun x s' => R (.error x) s') s) :
    codeAny (model prog w) A (.compStart (.SetComp elt [⟨t0, i0, ifs0, 0⟩, ⟨t1, i1, ifs1, 0⟩] scope pos) 1 it acc env) R s := by
  refine codeAny_of_tree ?_
  show wpAny _ _ ((PySem.compStart _ 1 it acc env).onRaise (fun x => do noteFrame x env; standAt theWindowsPlace)) _ _ s
  refine wpAny_notedAt ?_
  unfold PySem.compStart
  show wpAny _ _ (ask >>= _) _ _ s
  refine wpAny_bind (wpAny_askSetting (wpAny_ite ?_))
  split
  · first
      | exact wpAny_pure ⟨rfl, h0⟩
      | exact wpAny_bind (wpAny_pure (wpAny_pure ⟨rfl, h0⟩))
  · refine wpAny_bind (wpAny_rule ?_)
    show wpAny _ _ (standAt i1.pos >>= _) _ _ s
    exact wpAny_bind (wpAny_standAt (wpAny_bind (wpAny_mono h (fun it' s' h' => wpAny_pure ⟨rfl, h'⟩) fun _ _ x => x)))
theorem kc_start1 {prog : Program} {w : World} {A : Around} {R : Result → Shared → Prop} {s : Shared} {t0 i0 t1 i1 : Expr} {ifs0 ifs1 : List Expr} {it acc : Value} {env : Env} (h0 : codeAny (model prog w) A (.compLoop (kd.ex elt [⟨t0, i0, ifs0, 0⟩, ⟨t1, i1, ifs1, 0⟩] scope pos) 1 it acc env) R s)
    (h : wpAny (model prog w) A (pyIter it) (fun it' s' => codeAny (model prog w) A (.compLoop (kd.ex elt [⟨t0, i0, ifs0, 0⟩, ⟨t1, i1, ifs1, 0⟩] scope pos) 1 it' acc env) R s') (notedBy (model prog w) A env fun x s' => R (.error x) s') s) :
    codeAny (model prog w) A (.compStart (kd.ex elt [⟨t0, i0, ifs0, 0⟩, ⟨t1, i1, ifs1, 0⟩] scope pos) 1 it acc env) R s := by
  cases kd with
  | lst => exact compStart1_ok h0 h
  | set => exact set_start1 h0 h

theorem kc2_run {Pz : Cx → Prop} (hc : X.calm = true) (hN : X.N.Nodup) (hi : PI X tg iter wi) (ok : BlkOk X.N X.env.scope scope own) (hv : ∀ i ∈ vs1, i ∈ own.map (·.2))
    (hxb : ∀ ce u s', xb ce u s' → notedBy (model X.prog X.w) X.A ce (CompFails (model X.prog X.w) X.A X.xe ce) u s')
    (hz : ∀ (pins : List (Addr × Obj)) (σ : L2.St) (H : Hp) (s : Shared) (cl : List (PySem.Str × Addr)) (fp : List Addr), Inv X pins σ H s → (∀ b ∈ fp, FpOk X pins H b ∧ b < s.heap.objs.size) → Pz (bx X xb s H scope (compEnvC scope cl s.heap.objs.size X.env) fp))
    (hg : ∀ (s : Shared) (H : Hp) (C : Addr) (cl : List (PySem.Str × Addr)) (fp : List Addr), Pz (bx X xb s H scope (compEnvC scope cl C X.env) fp) → PG (bx X xb s H scope (compEnvC scope cl C X.env) fp) tg g)
    (ht : ∀ (s : Shared) (H : Hp) (C : Addr) (cl : List (PySem.Str × Addr)) (fp : List Addr), Pz (bx X xb s H scope (compEnvC scope cl C X.env) fp) → PTs (bx X xb s H scope (compEnvC scope cl C X.env) fp) ifs tt)
    (hi1 : ∀ (s : Shared) (H : Hp) (C : Addr) (cl : List (PySem.Str × Addr)) (fp : List Addr), Pz (bx X xb s H scope (compEnvC scope cl C X.env) fp) → PI (bx X xb s H scope (compEnvC scope cl C X.env) fp) tg1 iter1 wi1)
    (hg1 : ∀ (s : Shared) (H : Hp) (C : Addr) (cl : List (PySem.Str × Addr)) (fp : List Addr), PG (X.blk s H scope (compEnvC scope cl C X.env) fp) tg1 g1)
    (ht1 : ∀ (s : Shared) (H : Hp) (C : Addr) (cl : List (PySem.Str × Addr)) (fp : List Addr), PTs (X.blk s H scope (compEnvC scope cl C X.env) fp) ifs1 tt1)
    (he : ∀ (s : Shared) (H : Hp) (C : Addr) (cl : List (PySem.Str × Addr)) (fp : List Addr), PE (X.blk s H scope (compEnvC scope cl C X.env) fp) elt te)
    (hs : ∀ x, foldedSetIterable iter X.env x = pure x) (hs1 : ∀ env x, foldedSetIterable iter1 env x = pure x) :
    PE X (kd.ex elt [⟨tg, iter, ifs, 0⟩, ⟨tg1, iter1, ifs1, 0⟩] scope pos) (tKc2 X.prog X.w kd wi g tt wi1 g1 tt1 te (own.map (·.2)) vs1) := by
  refine ⟨fun pins s σ H Q I h => ?_⟩
  refine kc_open hN I hi ok hs h fun it D fp tn J H2 s3 s4 cl hDn q T I3 f3 st4 I4 => ?_
  obtain ⟨W, ⟨m0, w0⟩, turn⟩ := q D hDn
  have pz := hz pins σ _ s3 cl fp I3 f3
  have pg := hg s3 (upd H2 D (kd.ini X.prog X.w D)) s3.heap.objs.size cl fp pz
  have pt := ht s3 (upd H2 D (kd.ini X.prog X.w D)) s3.heap.objs.size cl fp pz
  have pi1 := hi1 s3 (upd H2 D (kd.ini X.prog X.w D)) s3.heap.objs.size cl fp pz
  have pe := he s3 (upd H2 D (kd.ini X.prog X.w D)) s3.heap.objs.size cl fp
  have pg1 := hg1 s3 (upd H2 D (kd.ini X.prog X.w D)) s3.heap.objs.size cl fp
  have pt1 := ht1 s3 (upd H2 D (kd.ini X.prog X.w D)) s3.heap.objs.size cl fp
  have kend := fun {σ' : L2.St} {H' : Hp} {s' : Shared} (I' : Inv (bx X xb s3 (upd H2 D (kd.ini X.prog X.w D)) scope (compEnvC scope cl s3.heap.objs.size X.env) fp) [] σ' H' s') (q' : Q (.ref D) H') => kc_end (D := D) (Q := Q) I3 f3 I' q'
  have nfp : ∀ b ∈ fp, (upd H2 D (kd.ini X.prog X.w D)) b = none := fun b hb => (f3 b hb).1.1
  generalize hce : compEnvC scope cl s3.heap.objs.size X.env = ce at I4 pg pt pe pi1 pg1 pt1 kend ⊢
  generalize hH3 : upd H2 D (kd.ini X.prog X.w D) = H3 at I3 I4 pg pt pe pi1 pg1 pt1 w0 nfp f3 kend
  refine loop_ofO (by cases kd <;> rfl) (by cases kd <;> rfl) kc_den2o (hs1 ce) (fun n s' => ∃ i H', Inv (X.blk s3 H3 scope ce fp) [] (wipe σ (own.map (·.2))) H' s' ∧ tn i s'.heap ∧ (∀ b ∈ fp, H' b = none) ∧ W i n H') ?_ m0 ⟨0, H3, I4, st4, nfp, w0⟩
  rintro n s5 ⟨i, H5, I5, st5, n5, w5⟩
  have up : ∀ {u : Value} {s' : Shared}, xb ce u s' → notedBy (model X.prog X.w) X.A ce (fun e s' => compEnds (model X.prog X.w) X.A X.xe none (EP X pins σ Q) (.ref D) ce (.error e) s') u s' := fun z => hxb ce _ _ z
  rcases turn i n H5 w5 with ⟨stop, qq⟩ | ⟨go, Nx, hNx, step⟩
  · refine thnF (T.done (X.blk s3 H3 scope ce fp) rfl rfl rfl hc i [] s5 _ H5 (fun _ _ => False) I5 (pin_stat rfl I5 n5) st5 stop) fun r s6 ⟨hr, I6⟩ => ?_
    subst hr
    exact kend (I6.wish (xb ce)) qq
  · refine thnF (T.item (X.blk s3 H3 scope ce fp) rfl rfl rfl hc i [] s5 _ H5 (fun _ _ => False) I5 (pin_stat rfl I5 n5) st5 go) fun r s6 ⟨u, hr, h6⟩ => ?_
    subst hr
    refine thnF h6 fun _ s7 ⟨x, H7, I7, r7, y7, st7, n7⟩ => ?_
    have I7' := (I7.pinned (pin_stat rfl I7 n7) (T.obj _ _ st7)).wish (xb ce)
    refine wpAny_mono (pg.run _ s7 _ H7 x u _ I7' r7 (step x H7 y7)) (fun _ s8 ⟨σ8, H8, I8, hw8, q8⟩ => ?_) fun _ _ z => up z
    refine wpAny_mono (pt.run _ s8 σ8 H8 _ I8 q8) (fun b s9 ⟨H9, I9, q9⟩ => ?_) fun _ _ z => up z
    -- the turn's end, from any slots that know what the block knew at its start
    have fin : ∀ {σ9 : L2.St} {s' : Shared} {H' : Hp}, Inv (X.blk s3 H3 scope ce fp) ([] ++ pinsAt fp s7.heap) σ9 H' s' → (wipe σ (own.map (·.2))).length = σ9.length → (∀ (j : Nat) v, (wipe σ (own.map (·.2)))[j]? = some (some v) → σ9[j]? = some (some v)) → Nx H' →
        ∃ m, m < n ∧ ∃ i H', Inv (X.blk s3 H3 scope ce fp) [] (wipe σ (own.map (·.2))) H' s' ∧ tn i s'.heap ∧ (∀ b ∈ fp, H' b = none) ∧ W i m H' := fun {σ9 s' H'} I' hl hk nx => by
      obtain ⟨m', hm, w'⟩ := hNx H' nx
      have pin' : ∀ b ∈ fp, ∀ o, s7.heap.get? b = some o → s'.heap.get? b = some o ∧ H' b = none := fun b hb o e =>
        let z := I'.pin (b, o) (List.mem_append_right _ (List.mem_append_right _ (mem_pinsAt hb e)))
        ⟨z.1, z.2.1⟩
      refine ⟨m', hm, i + 1, H', (I'.unpinned (pins := [])).weak hl hk, T.keep _ _ _ st7 fun b hb o e => (pin' b hb o e).1, fun b hb => ?_, w'⟩
      obtain ⟨o, e, _⟩ := T.obj _ _ st7 b hb
      exact (pin' b hb o e).2
    have hl8 : (wipe σ (own.map (·.2))).length = σ8.length := by rw [← hw8, wipe_length]
    have hk8 : ∀ (j : Nat) v, (wipe σ (own.map (·.2)))[j]? = some (some v) → σ8[j]? = some (some v) := fun j v e => (wipe_some (hw8 ▸ e)).1
    have hk9 : ∀ (j : Nat) v, (wipe σ (own.map (·.2)))[j]? = some (some v) → (wipe σ8 vs1)[j]? = some (some v) := fun j v e => by
      obtain ⟨e1, e2⟩ := wipe_some (hw8 ▸ e)
      rw [wipe_out fun z => e2 (hv j z)]
      exact e1
    cases b with
    | false =>
      simp only [Bool.false_eq_true, if_false] at q9 ⊢
      exact fin I9.unwish hl8 hk8 q9
    | true =>
      simp only [if_true] at q9 ⊢
      refine wpAny_mono (pi1.run _ s9 σ8 H9 _ I9 q9) (fun xv s10 hx => wpAny_mono hx (fun itv s11 h11 => ?_) fun _ _ z => up z) fun _ _ z => up z
      obtain ⟨it1, fp1, tn1, J1, H11, e1, I11w, T1, st11, f11, W1, ⟨m1, w1⟩, turn1⟩ := h11
      subst e1
      have I11 : Inv (X.blk s3 H3 scope ce fp) ([] ++ pinsAt fp s7.heap) σ8 H11 s11 := I11w.unwish
      have stat1 : ∀ {H' : Hp}, (∀ b ∈ fp1, H' b = none) → ∀ b ∈ fp1, FpOk (X.blk s3 H3 scope ce fp) ([] ++ pinsAt fp s7.heap) H' b := fun hn b hb => ⟨hn b hb, (f11 b hb).2⟩
      have loop1 : codeAny (model X.prog X.w) X.A (.compLoop (kd.ex elt [⟨tg, iter, ifs, 0⟩, ⟨tg1, iter1, ifs1, 0⟩] scope pos) 1 (.ref it1) (.ref D) ce)
          (fun r s' => match r with
            | .ok _ => ∃ m, m < n ∧ ∃ i H', Inv (X.blk s3 H3 scope ce fp) [] (wipe σ (own.map (·.2))) H' s' ∧ tn i s'.heap ∧ (∀ b ∈ fp, H' b = none) ∧ W i m H'
            | .error _ => False) s11 := by
        refine loop_of (lay := kd.lay elt (.ref D) ce) (by cases kd <;> rfl) (by cases kd <;> rfl) kc_den2 (fun k s' => ∃ j H', Inv (X.blk s3 H3 scope ce fp) ([] ++ pinsAt fp s7.heap) (wipe σ8 vs1) H' s' ∧ tn1 j s'.heap ∧ (∀ b ∈ fp1, H' b = none) ∧ W1 j k H') ?_ m1
          ⟨0, H11, I11.weak (wipe_length _ _) (fun j v e => (wipe_some e).1), st11, fun b hb => (f11 b hb).1, w1⟩
        rintro k s12 ⟨j, H12, I12, st12, n12, w12⟩
        rcases turn1 j k H12 w12 with ⟨stop1, nx1⟩ | ⟨go1, Nx1, hNx1, step1⟩
        · refine thnF (T1.done (X.blk s3 H3 scope ce fp) rfl rfl rfl hc j _ s12 (wipe σ8 vs1) H12 (fun _ _ => False) I12 (stat1 n12) st12 stop1) fun r s13 ⟨hr, I13⟩ => ?_
          subst hr
          exact fin I13 (hl8.trans (wipe_length σ8 vs1).symm) hk9 nx1
        · refine thnF (T1.item (X.blk s3 H3 scope ce fp) rfl rfl rfl hc j _ s12 (wipe σ8 vs1) H12 (fun _ _ => False) I12 (stat1 n12) st12 go1) fun r s13 ⟨u1, hr, h13⟩ => ?_
          subst hr
          refine thnF h13 fun _ s14 ⟨x1, H14, I14, r14, y14, st14, n14⟩ => ?_
          have I14' := I14.pinned (stat1 n14) (T1.obj _ _ st14)
          refine thnF (pg1.run _ s14 (wipe σ8 vs1) H14 x1 u1 _ I14' r14 (step1 x1 H14 y14)) fun _ s15 ⟨σ15, H15, I15, hw15, q15⟩ => ?_
          refine thnF (pt1.run _ s15 σ15 H15 _ I15 q15) fun b1 s16 ⟨H16, I16, q16⟩ => ?_
          have fin1 : ∀ {s' : Shared} {H' : Hp}, Inv (X.blk s3 H3 scope ce fp) (([] ++ pinsAt fp s7.heap) ++ pinsAt fp1 s14.heap) σ15 H' s' → Nx1 H' → ∃ m, m < k ∧ ∃ j H', Inv (X.blk s3 H3 scope ce fp) ([] ++ pinsAt fp s7.heap) (wipe σ8 vs1) H' s' ∧ tn1 j s'.heap ∧ (∀ b ∈ fp1, H' b = none) ∧ W1 j m H' := fun {s' H'} I' nx => by
            obtain ⟨m', hm, w'⟩ := hNx1 H' nx
            have pin' : ∀ b ∈ fp1, ∀ o, s14.heap.get? b = some o → s'.heap.get? b = some o ∧ H' b = none := fun b hb o e =>
              let z := I'.pin (b, o) (List.mem_append_right _ (List.mem_append_right _ (mem_pinsAt hb e)))
              ⟨z.1, z.2.1⟩
            refine ⟨m', hm, j + 1, H', I'.unpinned.weak (by rw [← hw15, wipe_length]) (fun j v e => (wipe_some (hw15 ▸ e)).1), T1.keep _ _ _ st14 fun b hb o e => (pin' b hb o e).1, fun b hb => ?_, w'⟩
            obtain ⟨o, e, _⟩ := T1.obj _ _ st14 b hb
            exact (pin' b hb o e).2
          cases b1 with
          | false =>
            simp only [Bool.false_eq_true, if_false] at q16 ⊢
            exact fin1 I16 q16
          | true =>
            simp only [if_true] at q16 ⊢
            exact thnF (lay_ok kd pe I16 q16) fun _ s' ⟨H', I', nx⟩ => fin1 I' nx
      exact kc_start1 loop1 (T1.self X.A 0 _ _ _ st11 loop1)
end
end TS
end
/-! TD1 -/
set_option linter.all false
set_option maxRecDepth 100000
set_option maxHeartbeats 4000000
noncomputable section
namespace TS
open PySem PySem.Spec PyProof.Rows L2 PySem.Froz Evl

/-! ### iterators over values that are known ahead -/
structure Goes (J : It) (Hc : Hp → Prop) (xs : List V) : Prop where
  go : ∀ i x H, xs[i]? = some x → Hc H → J.go i H
  stop : ∀ i H, xs.length ≤ i → Hc H → J.stop i H
  yld : ∀ i x H y H', xs[i]? = some x → Hc H → J.yld i H y H' → H' = H ∧ y = x

theorem goes_l {K : PySem.W.Frag} {a : Addr} {xs : List V} {Hc : Hp → Prop} (h : ∀ H, Hc H → SqL K H a xs) : Goes (Itl K a) Hc xs where
  go := fun i x H hx hc => ⟨xs, x, h H hc, hx⟩
  stop := fun i H hi hc => ⟨xs, h H hc, hi⟩
  yld := fun i x H y H' hx hc hy => by
    obtain ⟨e, q⟩ := hy
    have z := q xs (h H hc)
    rw [hx] at z
    exact ⟨e, (Option.some.inj z).symm⟩
theorem goes_t {K : PySem.W.Frag} {a : Addr} {xs : List V} {Hc : Hp → Prop} (h : ∀ H, Hc H → SqT K H a xs) : Goes (Itt K a) Hc xs where
  go := fun i x H hx hc => ⟨xs, x, h H hc, hx⟩
  stop := fun i H hi hc => ⟨xs, h H hc, hi⟩
  yld := fun i x H y H' hx hc hy => by
    obtain ⟨e, q⟩ := hy
    have z := q xs (h H hc)
    rw [hx] at z
    exact ⟨e, (Option.some.inj z).symm⟩
/-- the numbers of a range -/
def nums (lo : Int) (n : Nat) : List V := (List.range n).map fun (k : Nat) => V.int (lo + (k : Int))
theorem nums_len (lo : Int) (n : Nat) : (nums lo n).length = n := by simp [nums]
theorem nums_at {lo : Int} {n i : Nat} {x : V} (h : (nums lo n)[i]? = some x) : i < n ∧ x = V.int (lo + (i : Int)) := by
  have hi : i < n := by have := (List.getElem?_eq_some_iff.mp h).1; rwa [nums_len] at this
  refine ⟨hi, ?_⟩
  simp only [nums, List.getElem?_map, List.getElem?_range hi, Option.map_some] at h
  exact (Option.some.inj h).symm
theorem goes_r {lo : Int} {n : Nat} {Hc : Hp → Prop} : Goes (Itr lo n) Hc (nums lo n) where
  go := fun i x H hx _ => (nums_at hx).1
  stop := fun i H hi _ => by rw [nums_len] at hi; exact hi
  yld := fun i x H y H' hx _ hy => ⟨hy.1, hy.2.trans (nums_at hx).2.symm⟩
/-- the signs of a text -/
def signsV (x : PySem.Str) : List V := (signs x).map V.str
theorem signsV_at {x : PySem.Str} {i : Nat} {c : Nat} (h : x.cps[i]? = some c) : (signsV x)[i]? = some (V.str ⟨#[c]⟩) := by
  have h2 : x.cps.toList[i]? = some c := by simpa using h
  simp [signsV, signs, List.getElem?_map, h2]
theorem signsV_len (x : PySem.Str) : (signsV x).length = x.cps.size := by simp [signsV, signs]
theorem goes_s {x : PySem.Str} {Hc : Hp → Prop} : Goes (Its x) Hc (signsV x) where
  go := fun i y H hx _ => by have := (List.getElem?_eq_some_iff.mp hx).1; rw [signsV_len] at this; exact this
  stop := fun i H hi _ => by rw [signsV_len] at hi; exact hi
  yld := fun i y H z H' hx _ hy => by
    obtain ⟨e, c, hc, rfl⟩ := hy
    rw [signsV_at hc] at hx
    exact ⟨e, Option.some.inj hx⟩

/-- the turns of any walk, by what holds behind i of them -/
theorem turns {J : It} {Hc : Hp → Prop} {xs : List V} (g : Goes J Hc xs) {H0 : Hp} {Step : V → Hp → (Hp → Prop) → Prop} {Qd : Hp → Prop} (Pv : Nat → Hp → Prop) (h0 : Pv 0 H0) (hl : ∀ i H, i ≤ xs.length → Pv i H → Hc H)
    (hs : ∀ i x H, xs[i]? = some x → Pv i H → Step x H (Pv (i + 1))) (hd : ∀ H, Pv xs.length H → Qd H) :
    ∃ W : Nat → Nat → Hp → Prop, (∃ m, W 0 m H0) ∧ ∀ i m H, W i m H → (J.stop i H ∧ Qd H) ∨ (J.go i H ∧ ∃ Nx : Hp → Prop, (∀ H', Nx H' → ∃ m', m' < m ∧ W (i + 1) m' H') ∧ ∀ x H', J.yld i H x H' → Step x H' Nx) := by
  refine ⟨fun i m H => i ≤ xs.length ∧ m = xs.length - i ∧ Pv i H, ⟨xs.length, Nat.zero_le _, by simp, h0⟩, ?_⟩
  rintro i m H ⟨hi, rfl, p⟩
  have c := hl i H hi p
  cases e : xs[i]? with
  | some x =>
    have hlt := (List.getElem?_eq_some_iff.mp e).1
    refine .inr ⟨g.go i x H e c, Pv (i + 1), fun H' p' => ⟨xs.length - (i + 1), by omega, hlt, rfl, p'⟩, fun y H' hy => ?_⟩
    obtain ⟨rfl, rfl⟩ := g.yld i x H y H' e c hy
    exact hs i _ _ e p
  | none =>
    have z : i = xs.length := Nat.le_antisymm hi (List.getElem?_eq_none_iff.mp e)
    subst z
    exact .inl ⟨g.stop _ H (Nat.le_refl _) c, hd H p⟩

/-- a source evaluates to a walk over xs, leaving what is known; G: the ground, with what the source has made -/
def EvI (wi : TI) (σ : L2.St) (H : Hp) (xs : List V) : Prop := ∀ H1, Ex H H1 → ∀ R : It → Hp → Prop, (∀ J H2 G, Ex H1 H2 → Ex H G → Ex G H2 → (∀ b, H b = none → H1 b ≠ none → G b = none) → Goes J (fun H' => Ex G H') xs → R J H2) → wi σ H1 R
/-- an expression, a source never gives anything: it raises -/
def Nev (te : TE) (σ : L2.St) (H : Hp) : Prop := ∀ H1, Ex H H1 → ∀ Q : VK, te σ H1 Q
def NevI (wi : TI) (σ : L2.St) (H : Hp) : Prop := ∀ H1, Ex H H1 → ∀ R : It → Hp → Prop, wi σ H1 R

section
variable {K : PySem.W.Frag} {σ : L2.St} {H H' : Hp} {tl te : TE} {xs : List V} {a : Addr}
/-- two grounds of one heap, together -/
def both (H G : Hp) : Hp := fun b => match H b with | some o => some o | none => G b
theorem both_l : Ex H (both H H') := fun b o h => by unfold both; rw [h]
theorem both_r {H2 : Hp} (h1 : Ex H H2) (h2 : Ex H' H2) : Ex H' (both H H') := fun b o h => by
  unfold both
  cases q : H b with
  | none => exact h
  | some u => rw [← h1 b u q, h2 b o h]
theorem both_in {H2 : Hp} (h1 : Ex H H2) (h2 : Ex H' H2) : Ex (both H H') H2 := fun b o h => by
  unfold both at h
  cases q : H b with
  | none => rw [q] at h; exact h2 b o h
  | some u => rw [q] at h; rw [← h]; exact h1 b u q
theorem Goes.weak {J : It} {Hc Hd : Hp → Prop} (g : Goes J Hc xs) (h : ∀ H, Hd H → Hc H) : Goes J Hd xs :=
  ⟨fun i x H hx c => g.go i x H hx (h H c), fun i H hi c => g.stop i H hi (h H c), fun i x H y H' hx c hy => g.yld i x H y H' hx (h H c) hy⟩
theorem EvI.mono {wi : TI} (e : Ex H H') (h : EvI wi σ H xs) : EvI wi σ H' xs := fun H1 a R q => h H1 (e.trans a) R fun J H2 G e2 eG eG2 nG g =>
  have l : Ex H' H2 := a.trans e2
  q J H2 (both H' G) e2 both_l (both_in l eG2) (fun b h0 h1 => by
    unfold both
    rw [h0]
    exact nG b (by cases z : H b with | none => rfl | some o => rw [e b o z] at h0; cases h0) h1) (g.weak fun H3 e3 => (both_r l eG2).trans e3)
theorem ei_list (h : Ev tl σ H (.ref a)) (hs : SqL K H a xs) : EvI (iList K tl) σ H xs := fun H1 e R q => h H1 e _ fun H2 e2 =>
  ⟨a, rfl, ⟨xs, ex_l (e.trans e2) hs⟩, q _ H2 H e2 (Ex.refl H) (e.trans e2) (fun _ n _ => n) (goes_l fun H3 e3 => ex_l e3 hs)⟩
theorem ei_tup (h : Ev tl σ H (.ref a)) (hs : SqT K H a xs) : EvI (iTup K tl) σ H xs := fun H1 e R q => h H1 e _ fun H2 e2 =>
  ⟨a, rfl, ⟨xs, ex_t (e.trans e2) hs⟩, q _ H2 H e2 (Ex.refl H) (e.trans e2) (fun _ n _ => n) (goes_t fun H3 e3 => ex_t e3 hs)⟩
theorem ei_new (h : EvL tl σ H xs) : EvI (iList K tl) σ H xs := fun H1 e R q => h H1 e _ fun p H2 hp e2 h2 =>
  ⟨p, rfl, ⟨xs, sq_of h2⟩, q _ H2 (upd H p (.lst xs)) e2 (Ex.new (fresh_back e hp)) (fun b o z => by
    by_cases hb : b = p
    · subst hb; rw [upd_same] at z; rw [← z]; exact h2
    · rw [upd_ne hb] at z; exact e2 b o (e b o z)) (fun b n n1 => by
    have ne : b ≠ p := fun z => n1 (by rw [z]; exact hp)
    rw [upd_ne ne]; exact n) (goes_l fun H3 e3 => sq_of (e3 p _ upd_same))⟩
theorem ei_str {x : PySem.Str} (h : Ev te σ H (.str x)) : EvI (iStr te) σ H (signsV x) := fun H1 e R q => h H1 e _ fun H2 e2 => ⟨x, rfl, q _ H2 H e2 (Ex.refl H) (e.trans e2) (fun _ n _ => n) goes_s⟩
theorem ei_rng1 {ta : TA} {n : Int} (h : EvA ta σ H [.int n]) (h1 : -(2 ^ 62) ≤ n) (h2 : n < 2 ^ 62) : EvI (iRng1 ta) σ H (nums 0 n.toNat) := fun H1 e R q => h H1 e _ fun H2 e2 => ⟨n, rfl, h1, h2, q _ H2 H e2 (Ex.refl H) (e.trans e2) (fun _ n _ => n) goes_r⟩
theorem nevi_list (h : Nev tl σ H) : NevI (iList K tl) σ H := fun H1 e R => h H1 e _
/-- a list or a tuple, whichever it is -/
def SqE (K : PySem.W.Frag) (H : Hp) (x : V) (xs : List V) : Prop := ∃ a, x = .ref a ∧ (SqL K H a xs ∨ SqT K H a xs)
theorem SqE.mono {x : V} (e : Ex H H') (h : SqE K H x xs) : SqE K H' x xs := by
  obtain ⟨a, rfl, h | h⟩ := h
  · exact ⟨a, rfl, .inl (ex_l e h)⟩
  · exact ⟨a, rfl, .inr (ex_t e h)⟩
def iSeq (K : PySem.W.Frag) (tl : TE) : TI := fun σ H R => tl σ H fun x H1 => ∃ a, x = .ref a ∧ (((∃ xs, SqL K H1 a xs) ∧ R (Itl K a) H1) ∨ ((∃ xs, SqT K H1 a xs) ∧ R (Itt K a) H1))
theorem ei_seq {x : V} (h : Ev tl σ H x) (hs : SqE K H x xs) : EvI (iSeq K tl) σ H xs := fun H1 e R q => h H1 e _ fun H2 e2 => by
  obtain ⟨a, rfl, hs | hs⟩ := hs
  · exact ⟨a, rfl, .inl ⟨⟨xs, ex_l (e.trans e2) hs⟩, q _ H2 H e2 (Ex.refl H) (e.trans e2) (fun _ n _ => n) (goes_l fun H3 e3 => ex_l e3 hs)⟩⟩
  · exact ⟨a, rfl, .inr ⟨⟨xs, ex_t (e.trans e2) hs⟩, q _ H2 H e2 (Ex.refl H) (e.trans e2) (fun _ n _ => n) (goes_t fun H3 e3 => ex_t e3 hs)⟩⟩
theorem nevi_seq (h : Nev tl σ H) : NevI (iSeq K tl) σ H := fun H1 e R => h H1 e _
end
theorem pi_seq {X : Cx} {tg l : Expr} {tl : TE} (hl : PE X l tl) : PI X tg l (iSeq X.K tl) := by
  refine ⟨fun pins s σ H R I h => thn (hl.run pins s σ H _ I h) fun v s1 ⟨x, H1, I1, r1, q1⟩ => ?_⟩
  have own : ∀ b ∈ [s1.heap.objs.size], FpOk X pins H1 b := fun b hb => by
    rw [List.mem_singleton.mp hb]
    exact I1.fpOk (Nat.le_refl _) (I1.hok.fresh (Nat.le_refl _))
  obtain ⟨a, rfl, ⟨⟨xs, hq⟩, q⟩ | ⟨⟨xs, hq⟩, q⟩⟩ := q1
  · obtain rfl : v = Value.ref a := r1
    obtain ⟨its, _, p, _⟩ := I1.list hq
    exact wpAny_pyIter_list p.isList ⟨_, [s1.heap.objs.size], _, _, H1, rfl, I1.kept (t' := s1.toks) fun b o e => Heap.get?_push_of_some _ e, turn_list a _, ⟨_, Heap.get?_push_size _ rfl, rfl, rfl⟩, own, q⟩
  · obtain rfl : v = Value.ref a := r1
    obtain ⟨its, _, p, _⟩ := I1.tuple hq
    exact wpAny_pyIter_tuple (items := its.toArray) p ⟨_, [s1.heap.objs.size], _, _, H1, rfl, I1.kept (t' := s1.toks) fun b o e => Heap.get?_push_of_some _ e, turn_tuple a _, ⟨_, Heap.get?_push_size _ rfl, rfl, rfl⟩, own, q⟩

/-! ### statements: at the heap H1, over the ground H -/
section
variable {K : PySem.W.Frag} {P : Program} {w : World} {σ : L2.St} {H H1 : Hp} {te : TE} {tt : TT} {tb tz : TS} {D : Ends} {wi wi1 : TI} {xs : List V} {j : Nat} {vs vs1 : List Nat}
theorem s_forI (h : EvI wi σ H xs) (e1 : Ex H H1) (Pv : Hp → Nat → L2.St → Hp → Prop) (h0 : ∀ G H2, Ex H G → Ex H1 H2 → Ex G H2 → Pv G 0 σ H2)
    (hs : ∀ G i x σ' H', Ex H G → Ex G H' → xs[i]? = some x → Pv G i σ' H' → tb { D with nx := fun σ2 H2 => Ex G H2 ∧ Pv G (i + 1) σ2 H2, ct := fun σ2 H2 => Ex G H2 ∧ Pv G (i + 1) σ2 H2, bk := D.nx } (σ'.set j (some x)) H')
    (hd : ∀ G σ' H', Ex H G → Ex G H' → Pv G xs.length σ' H' → D.nx σ' H') : tFor wi (gName j) tb D σ H1 := h H1 e1 _ fun J H2 G e2 eG eG2 nG g => by
  refine ⟨fun i m σ' H' => i ≤ xs.length ∧ m = xs.length - i ∧ Ex G H' ∧ Pv G i σ' H', ⟨xs.length, Nat.zero_le _, by simp, eG2, h0 G H2 eG e2 eG2⟩, ?_⟩
  rintro i m σ' H' ⟨hi, rfl, c, p⟩
  cases q : xs[i]? with
  | some x =>
    have hlt := (List.getElem?_eq_some_iff.mp q).1
    refine .inr ⟨g.go i x H' q c, fun σ2 H2 => Ex G H2 ∧ Pv G (i + 1) σ2 H2, fun σ2 H2 p' => ⟨xs.length - (i + 1), by omega, hlt, rfl, p'⟩, fun y H2 hy => ?_⟩
    obtain ⟨rfl, rfl⟩ := g.yld i x H' y H2 q c hy
    exact hs G i _ _ _ eG c q p
  | none =>
    have z : i = xs.length := Nat.le_antisymm hi (List.getElem?_eq_none_iff.mp q)
    subst z
    exact .inl ⟨g.stop _ H' (Nat.le_refl _) c, hd G _ _ eG c p⟩
theorem q_forI (h : EvI wi σ H xs) (e1 : Ex H H1) (Pv : Hp → Nat → L2.St → Hp → Prop) (h0 : ∀ G H2, Ex H G → Ex H1 H2 → Ex G H2 → Pv G 0 σ H2)
    (hs : ∀ G i x σ' H', Ex H G → Ex G H' → xs[i]? = some x → Pv G i σ' H' → tb { D with nx := fun σ2 H2 => Ex G H2 ∧ Pv G (i + 1) σ2 H2, ct := fun σ2 H2 => Ex G H2 ∧ Pv G (i + 1) σ2 H2, bk := tz D } (σ'.set j (some x)) H')
    (hd : ∀ G σ' H', Ex H G → Ex G H' → Pv G xs.length σ' H' → tz D σ' H') : tSeq (tFor wi (gName j) tb) tz D σ H1 := s_forI (D := { D with nx := tz D }) h e1 Pv h0 hs hd

/-! ### comprehensions -/
theorem et_yes : EvT tYes σ H true := fun H1 _ Q q => q H1 (Ex.refl H1)

/-- what stands at D when the items ys have been gathered -/
def strV : V → PySem.Str
  | .str k => k
  | _ => Str.empty
def Kd.val (P : Program) (w : World) : Kd → Addr → List V → HO
  | .lst, _, ys => .lst ys
  | .set, D, ys => SetS P w D (intoSet [] (ys.map strV))
def Kd.fits : Kd → V → Prop
  | .lst, _ => True
  | .set, y => ∃ k, y = .str k
theorem Kd.val0 (kd : Kd) (D : Addr) : kd.val P w D [] = kd.ini P w D := by cases kd <;> rfl
theorem Kd.add_of (kd : Kd) {D : Addr} {H : Hp} {ys : List V} {y : V} {N : Hp → Prop} (hD : H D = some (kd.val P w D ys)) (hz : ys.length < 4000) (hf : kd.fits y) (hN : N (upd H D (kd.val P w D (ys ++ [y])))) : kd.add P w D H y N := by
  cases kd with
  | lst => exact ⟨ys, hD, sz_lt (by omega), hN⟩
  | set =>
    obtain ⟨k, rfl⟩ := hf
    refine ⟨_, k, rfl, hD, ?_, ?_⟩
    · have z := intoSet_len (ys.map strV) []
      rw [List.length_nil, List.length_map] at z
      exact scan4000 (by omega)
    · have e : (ys ++ [V.str k]).map strV = ys.map strV ++ [k] := by rw [List.map_append]; rfl
      have f : Kd.set.val P w D (ys ++ [V.str k]) = SetS P w D (if k ∈ intoSet [] (ys.map strV) then intoSet [] (ys.map strV) else k :: intoSet [] (ys.map strV)) := by
        show SetS P w D (intoSet [] ((ys ++ [V.str k]).map strV)) = _
        rw [e, intoSet_snoc]
      rw [f] at hN
      exact hN
/-- a new gathered thing -/
def EvK (P : Program) (w : World) (kd : Kd) (te : TE) (σ : L2.St) (H : Hp) (ys : List V) : Prop := ∀ H1, Ex H H1 → ∀ Q : VK, (∀ p H2, H1 p = none → Ex H1 H2 → H2 p = some (kd.val P w p ys) → Q (.ref p) H2) → te σ H1 Q
theorem EvK.lst {ys : List V} (h : EvK P w .lst te σ H ys) : EvL te σ H ys := h
theorem take_one {ys : List V} {i : Nat} {y : V} (h : ys[i]? = some y) : ys.take (i + 1) = ys.take i ++ [y] := by
  rw [List.take_add_one, h]; rfl
theorem take_len (ys : List V) (i : Nat) : (ys.take i).length ≤ ys.length := by rw [List.length_take]; omega

/-- one clause, no test -/
theorem ek_kc (kd : Kd) (ys : List V) (h : EvI wi σ H xs) (hl : ys.length = xs.length) (hz : xs.length ≤ 3000) (hf : ∀ y ∈ ys, kd.fits y) (hw : ∀ x, wipe ((wipe σ vs).set j (some x)) vs = wipe σ vs)
    (he : ∀ (i : Nat) (x y : V) H1, Ex H H1 → xs[i]? = some x → ys[i]? = some y → Ev te ((wipe σ vs).set j (some x)) H1 y) : EvK P w kd (tKc P w kd wi (gName j) tYes te vs) σ H ys := fun H0 e Q q => h H0 e _ fun J H1 G e1 eG eG1 nG g D hD => by
  refine turns (g := g) (Step := fun x H Nx => gName j x (wipe σ vs) H fun σ2 H2 => wipe σ2 vs = wipe σ vs ∧ tYes σ2 H2 fun b H3 => if b = true then te σ2 H3 fun y H4 => kd.add P w D H4 y Nx else Nx H3) (Qd := fun H => Q (.ref D) H)
    (fun i H' => Ex H1 H' ∧ H' D = some (kd.val P w D (ys.take i))) ⟨Ex.new hD, ?_⟩ (fun i H' _ p => eG1.trans p.1) (fun i x H' hx p => ⟨hw x, ?_⟩) (fun H' p => ?_)
  · rw [List.take_zero, kd.val0]; exact upd_same
  · have hi := (List.getElem?_eq_some_iff.mp hx).1
    have hyi : i < ys.length := by omega
    obtain ⟨y, hy⟩ : ∃ y, ys[i]? = some y := ⟨ys[i], List.getElem?_eq_getElem hyi⟩
    show te _ H' fun y H4 => kd.add P w D H4 y _
    refine he i x y H' ((e.trans e1).trans p.1) hx hy H' (Ex.refl _) _ fun H4 e4 => kd.add_of (e4 D _ p.2) (by have := take_len ys i; omega) (hf y (List.mem_of_getElem? hy)) ⟨Ex.mut (p.1.trans e4) hD, ?_⟩
    rw [upd_same, take_one hy]
  · refine q D H' (fresh_back e1 hD) (e1.trans p.1) ?_
    rw [p.2, ← hl, List.take_length]
/-- one clause and a test; f: which are taken -/
theorem ek_kcF (kd : Kd) (f : Nat → Bool) (v : Nat → V) (h : EvI wi σ H xs) (hz : xs.length ≤ 3000) (hf : ∀ i, kd.fits (v i)) (hw : ∀ x, wipe ((wipe σ vs).set j (some x)) vs = wipe σ vs)
    (ht : ∀ (i : Nat) (x : V) H1, Ex H H1 → xs[i]? = some x → EvT tt ((wipe σ vs).set j (some x)) H1 (f i))
    (he : ∀ (i : Nat) (x : V) H1, Ex H H1 → xs[i]? = some x → f i = true → Ev te ((wipe σ vs).set j (some x)) H1 (v i)) : EvK P w kd (tKc P w kd wi (gName j) tt te vs) σ H (given xs.length f v) := fun H0 e Q q => h H0 e _ fun J H1 G e1 eG eG1 nG g D hD => by
  refine turns (g := g) (Step := fun x H Nx => gName j x (wipe σ vs) H fun σ2 H2 => wipe σ2 vs = wipe σ vs ∧ tt σ2 H2 fun b H3 => if b = true then te σ2 H3 fun y H4 => kd.add P w D H4 y Nx else Nx H3) (Qd := fun H => Q (.ref D) H)
    (fun i H' => Ex H1 H' ∧ H' D = some (kd.val P w D (given i f v))) ⟨Ex.new hD, ?_⟩ (fun i H' _ p => eG1.trans p.1) (fun i x H' hx p => ⟨hw x, ?_⟩) (fun H' p => q D H' (fresh_back e1 hD) (e1.trans p.1) p.2)
  · show upd H1 D (kd.ini P w D) D = some (kd.val P w D [])
    rw [kd.val0]; exact upd_same
  · have hi := (List.getElem?_eq_some_iff.mp hx).1
    refine ht i x H' ((e.trans e1).trans p.1) hx H' (Ex.refl _) _ fun H3 e3 => ?_
    cases hfi : f i with
    | true =>
      show te _ H3 fun y H4 => kd.add P w D H4 y _
      refine he i x H3 (((e.trans e1).trans p.1).trans e3) hx hfi H3 (Ex.refl _) _ fun H4 e4 => kd.add_of (e4 D _ (e3 D _ p.2)) (by have := given_len i f v; omega) (hf i) ⟨Ex.mut ((p.1.trans e3).trans e4) hD, ?_⟩
      rw [upd_same, given_yes hfi]
    | false =>
      refine ⟨p.1.trans e3, ?_⟩
      rw [given_no hfi]
      exact e3 D _ p.2
/-- two clauses, no tests; ys i: what the outer item i gives; good i: its source does not raise -/
theorem ek_kc2x {j1 : Nat} (kd : Kd) (good : Nat → Prop) (zs ys : Nat → List V) (h : EvI wi σ H xs) (hl : ∀ i, i < xs.length → good i → (ys i).length = (zs i).length) (hz : ∀ i, i ≤ xs.length → ((List.range i).flatMap ys).length ≤ 3000) (hf : ∀ i, i < xs.length → ∀ y ∈ ys i, kd.fits y)
    (hw : ∀ x, wipe ((wipe σ vs).set j (some x)) vs = wipe σ vs) (hw1 : ∀ x z, wipe ((wipe ((wipe σ vs).set j (some x)) vs1).set j1 (some z)) vs1 = wipe ((wipe σ vs).set j (some x)) vs1)
    (hi : ∀ (i : Nat) (x : V) H1, Ex H H1 → xs[i]? = some x → good i → EvI wi1 ((wipe σ vs).set j (some x)) H1 (zs i))
    (hb : ∀ (i : Nat) (x : V) H1, Ex H H1 → xs[i]? = some x → ¬ good i → (∀ k, k < i → good k) → NevI wi1 ((wipe σ vs).set j (some x)) H1)
    (he : ∀ (i k : Nat) (x z y : V) H1, Ex H H1 → xs[i]? = some x → good i → (zs i)[k]? = some z → (ys i)[k]? = some y → Ev te ((wipe ((wipe σ vs).set j (some x)) vs1).set j1 (some z)) H1 y) :
    ∀ H0, Ex H H0 → ∀ Q : VK, ((∀ i, i < xs.length → good i) → ∀ p H2, H0 p = none → Ex H0 H2 → H2 p = some (kd.val P w p ((List.range xs.length).flatMap ys)) → Q (.ref p) H2) → tKc2 P w kd wi (gName j) tYes wi1 (gName j1) tYes te vs vs1 σ H0 Q := fun H0 e Q q => h H0 e _ fun J H1 G e1 eG eG1 nG g D hD => by
  refine turns (g := g) (Step := fun x H Nx => gName j x (wipe σ vs) H fun σ2 H2 => wipe σ2 vs = wipe σ vs ∧ tYes σ2 H2 fun b H3 => if b = true then wi1 σ2 H3 fun J1 H4 => ∃ W1 : Nat → Nat → Hp → Prop, (∃ m, W1 0 m H4) ∧ ∀ j k H, W1 j k H →
      (J1.stop j H ∧ Nx H) ∨ (J1.go j H ∧ ∃ Nx1 : Hp → Prop, (∀ H', Nx1 H' → ∃ k', k' < k ∧ W1 (j + 1) k' H') ∧ ∀ x H', J1.yld j H x H' → gName j1 x (wipe σ2 vs1) H' fun σ3 H5 => wipe σ3 vs1 = wipe σ2 vs1 ∧ tYes σ3 H5 fun b H6 =>
        if b = true then te σ3 H6 fun y H7 => kd.add P w D H7 y Nx1 else Nx1 H6) else Nx H3) (Qd := fun H => Q (.ref D) H)
    (fun i H' => (Ex H1 H' ∧ H' D = some (kd.val P w D ((List.range i).flatMap ys))) ∧ ∀ k, k < i → good k) ⟨⟨Ex.new hD, ?_⟩, fun k hk => absurd hk (Nat.not_lt_zero k)⟩ (fun i H' _ p => eG1.trans p.1.1) (fun i x H' hx p0 => ⟨hw x, ?_⟩) (fun H' p => q p.2 D H' (fresh_back e1 hD) (e1.trans p.1.1) p.1.2)
  · show upd H1 D (kd.ini P w D) D = some (kd.val P w D [])
    rw [kd.val0]; exact upd_same
  · have p := p0.1
    have hxi := (List.getElem?_eq_some_iff.mp hx).1
    refine (Classical.em (good i)).elim (fun gi => ?_) fun gi => hb i x H' ((e.trans e1).trans p.1) hx gi p0.2 H' (Ex.refl _) _
    have hlen := hz (i + 1) (by omega)
    have flat : (List.range (i + 1)).flatMap ys = (List.range i).flatMap ys ++ ys i := by rw [List.range_succ, List.flatMap_append]; simp
    rw [flat, List.length_append] at hlen
    refine hi i x H1 (e.trans e1) hx gi H' p.1 _ fun J1 H4 G1 e4 eG1' eG4 nG1 g1 => ?_
    have gD : G1 D = none := nG1 D hD (by rw [p.2]; exact fun z => nomatch z)
    refine turns (g := g1) (Step := fun x1 H Nx1 => gName j1 x1 (wipe ((wipe σ vs).set j (some x)) vs1) H fun σ3 H5 => wipe σ3 vs1 = wipe ((wipe σ vs).set j (some x)) vs1 ∧ tYes σ3 H5 fun b H6 => if b = true then te σ3 H6 fun y H7 => kd.add P w D H7 y Nx1 else Nx1 H6)
      (Qd := fun H2 => (Ex H1 H2 ∧ H2 D = some (kd.val P w D ((List.range (i + 1)).flatMap ys))) ∧ ∀ k, k < i + 1 → good k)
      (fun k H2 => (Ex G1 H2 ∧ Ex H1 H2) ∧ H2 D = some (kd.val P w D ((List.range i).flatMap ys ++ (ys i).take k))) ⟨⟨eG4, p.1.trans e4⟩, ?_⟩ (fun k H2 _ p2 => p2.1.1) (fun k z H2 hzk p2 => ⟨hw1 x z, ?_⟩) (fun H2 p2 => ⟨⟨p2.1.2, ?_⟩, fun k hk => (Nat.lt_succ_iff_lt_or_eq.mp hk).elim (p0.2 k) fun z => z ▸ gi⟩)
    · rw [List.take_zero, List.append_nil]; exact e4 D _ p.2
    · have hk := (List.getElem?_eq_some_iff.mp hzk).1
      have hyk : k < (ys i).length := by rw [hl i hxi gi]; exact hk
      obtain ⟨y, hy⟩ : ∃ y, (ys i)[k]? = some y := ⟨(ys i)[k], List.getElem?_eq_getElem hyk⟩
      show te _ H2 fun y H7 => kd.add P w D H7 y _
      refine he i k x z y H2 ((e.trans e1).trans p2.1.2) hx gi hzk hy H2 (Ex.refl _) _ fun H7 e7 => kd.add_of (e7 D _ p2.2) (by rw [List.length_append]; have := take_len (ys i) k; omega) (hf i hxi y (List.mem_of_getElem? hy)) ⟨⟨Ex.mut (p2.1.1.trans e7) gD, Ex.mut (p2.1.2.trans e7) hD⟩, ?_⟩
      rw [upd_same, take_one hy, List.append_assoc]
    · rw [p2.2, flat, ← hl i hxi gi, List.take_length]
theorem ek_kc2 {j1 : Nat} (kd : Kd) (zs ys : Nat → List V) (h : EvI wi σ H xs) (hl : ∀ i, i < xs.length → (ys i).length = (zs i).length) (hz : ∀ i, i ≤ xs.length → ((List.range i).flatMap ys).length ≤ 3000) (hf : ∀ i, i < xs.length → ∀ y ∈ ys i, kd.fits y)
    (hw : ∀ x, wipe ((wipe σ vs).set j (some x)) vs = wipe σ vs) (hw1 : ∀ x z, wipe ((wipe ((wipe σ vs).set j (some x)) vs1).set j1 (some z)) vs1 = wipe ((wipe σ vs).set j (some x)) vs1)
    (hi : ∀ (i : Nat) (x : V) H1, Ex H H1 → xs[i]? = some x → EvI wi1 ((wipe σ vs).set j (some x)) H1 (zs i))
    (he : ∀ (i k : Nat) (x z y : V) H1, Ex H H1 → xs[i]? = some x → (zs i)[k]? = some z → (ys i)[k]? = some y → Ev te ((wipe ((wipe σ vs).set j (some x)) vs1).set j1 (some z)) H1 y) :
    EvK P w kd (tKc2 P w kd wi (gName j) tYes wi1 (gName j1) tYes te vs vs1) σ H ((List.range xs.length).flatMap ys) := fun H0 e Q q =>
  ek_kc2x kd (fun _ => True) zs ys h (fun i hi _ => hl i hi) hz hf hw hw1 (fun i x H1 e1 hx _ => hi i x H1 e1 hx) (fun _ _ _ _ _ n _ => absurd True.intro n) (fun i k x z y H1 e1 hx _ hz hy => he i k x z y H1 e1 hx hz hy) H0 e Q fun _ => q
end
end TS
end
/-! TD2 -/
set_option linter.all false
set_option maxRecDepth 100000
set_option maxHeartbeats 4000000
noncomputable section
namespace TS
open PySem PySem.Spec PyProof.Rows L2 PySem.Froz Evl

/-! ### the order of texts; word order -/
abbrev Lx (x y : PySem.Str) : Prop := x.cps.toList < y.cps.toList
theorem lx_irr (x : PySem.Str) : ¬ Lx x x := List.lt_irrefl _
theorem lx_trans {x y z : PySem.Str} (h1 : Lx x y) (h2 : Lx y z) : Lx x z := List.lt_trans h1 h2
theorem lx_tri (x y : PySem.Str) : Lx x y ∨ x = y ∨ Lx y x := by
  by_cases h : Lx x y
  · exact .inl h
  · by_cases h' : Lx y x
    · exact .inr (.inr h')
    · refine .inr (.inl ?_)
      have e : x.cps.toList = y.cps.toList := List.le_antisymm (List.not_lt.mp h') (List.not_lt.mp h)
      obtain ⟨a⟩ := x
      obtain ⟨b⟩ := y
      simpa using e
theorem lx_le_trans {x y z : PySem.Str} (h1 : ¬ Lx y x) (h2 : ¬ Lx z y) : ¬ Lx z x := fun h => by
  rcases lx_tri x y with a | a | a
  · rcases lx_tri y z with b | b | b
    · exact lx_irr x (lx_trans (lx_trans a b) h)
    · rw [← b] at h; exact lx_irr x (lx_trans a h)
    · exact h2 b
  · rw [a] at h; exact h2 h
  · exact h1 a
theorem sortedS_pw : ∀ {l : List PySem.Str}, sortedS l = true → l.Pairwise fun x y => ¬ Lx y x
  | [], _ => List.Pairwise.nil
  | [x], _ => List.pairwise_singleton _ _
  | x :: y :: r, h => by
    have h' : (!ltCps y.cps.toList x.cps.toList && risingS y r) = true := h
    rw [Bool.and_eq_true] at h'
    have ih := sortedS_pw (l := y :: r) h'.2
    have hxy : ¬ Lx y x := by
      have z := h'.1
      rw [ltCps_eq] at z
      simpa using z
    refine List.Pairwise.cons (fun z hz => ?_) ih
    rcases List.mem_cons.mp hz with rfl | hz
    · exact hxy
    · exact lx_le_trans hxy ((List.pairwise_cons.mp ih).1 z hz)

/-- shorter, or as long and ahead in the order of texts -/
def Wlt (x y : PySem.Str) : Prop := x.length < y.length ∨ (x.length = y.length ∧ Lx x y)
theorem wlt_irr (x : PySem.Str) : ¬ Wlt x x := fun h => h.elim (Nat.lt_irrefl _) fun h => lx_irr x h.2
theorem wlt_asymm {x y : PySem.Str} (h : Wlt x y) (h' : Wlt y x) : False := by
  rcases h with h | ⟨e, h⟩ <;> rcases h' with h' | ⟨e', h'⟩
  · omega
  · omega
  · omega
  · exact lx_irr x (lx_trans h h')
/-- the texts of ss, each once, in word order -/
def WordOrd (ss ys : List PySem.Str) : Prop := ys.Pairwise Wlt ∧ ∀ k, k ∈ ys ↔ k ∈ ss
theorem pw_unique {α : Type} {R : α → α → Prop} (irr : ∀ x, ¬ R x x) (asy : ∀ x y, R x y → R y x → False) : ∀ {xs ys : List α}, xs.Pairwise R → ys.Pairwise R → (∀ k, k ∈ xs ↔ k ∈ ys) → xs = ys
  | [], [], _, _, _ => rfl
  | [], y :: ys, _, _, h => by have := (h y).mpr List.mem_cons_self; cases this
  | x :: xs, [], _, _, h => by have := (h x).mp List.mem_cons_self; cases this
  | x :: xs, y :: ys, hx, hy, h => by
    obtain ⟨hx1, hx2⟩ := List.pairwise_cons.mp hx
    obtain ⟨hy1, hy2⟩ := List.pairwise_cons.mp hy
    have e : x = y := by
      rcases List.mem_cons.mp ((h x).mp List.mem_cons_self) with e | m
      · exact e
      · rcases List.mem_cons.mp ((h y).mpr List.mem_cons_self) with e | m'
        · exact e.symm
        · exact (asy x y (hx1 y m') (hy1 x m)).elim
    subst e
    refine congrArg _ (pw_unique irr asy hx2 hy2 fun k => ⟨fun m => ?_, fun m => ?_⟩)
    · rcases List.mem_cons.mp ((h k).mp (List.mem_cons_of_mem _ m)) with e | m'
      · subst e; exact (irr _ (hx1 _ m)).elim
      · exact m'
    · rcases List.mem_cons.mp ((h k).mpr (List.mem_cons_of_mem _ m)) with e | m'
      · subst e; exact (irr _ (hy1 _ m)).elim
      · exact m'
theorem WordOrd.unique {ss tt xs ys : List PySem.Str} (h : WordOrd ss xs) (h' : WordOrd tt ys) (e : ∀ k, k ∈ ss ↔ k ∈ tt) : xs = ys :=
  pw_unique wlt_irr (fun _ _ => wlt_asymm) h.1 h'.1 fun k => (h.2 k).trans ((e k).trans (h'.2 k).symm)
/-- sorted by length, what was sorted before -/
theorem wordOrd_of {zs ys : List PySem.Str} (nd : zs.Nodup) (hz : zs.Pairwise fun x y => ¬ Lx y x) (hp : ys.Perm zs) (hl : ys.Pairwise fun x y => x.length ≤ y.length) (hf : ∀ n : Nat, ys.filter (fun x => x.length == n) = zs.filter (fun x => x.length == n)) : WordOrd zs ys := by
  refine ⟨?_, fun k => hp.mem_iff⟩
  have st : ∀ n : Nat, ys.Pairwise fun x y => x.length = n → y.length = n → ¬ Lx y x := fun n => by
    have q : (ys.filter fun x => x.length == n).Pairwise fun x y => ¬ Lx y x := by rw [hf n]; exact hz.filter _
    rw [List.pairwise_filter] at q
    exact q.imp fun h a b => h (by simpa using a) (by simpa using b)
  have ndy : ys.Nodup := hp.nodup_iff.mpr nd
  rw [List.pairwise_iff_getElem] at hl ⊢
  intro i j hi hj hij
  have a := hl i j hi hj hij
  rcases Nat.lt_or_eq_of_le a with b | b
  · exact .inl b
  · refine .inr ⟨b, ?_⟩
    have c := List.pairwise_iff_getElem.mp (st (ys[i]).length) i j hi hj hij rfl b.symm
    rcases lx_tri ys[i] ys[j] with d | d | d
    · exact d
    · exact absurd d (List.pairwise_iff_getElem.mp ndy i j hi hj hij)
    · exact absurd d c
theorem WordOrd.congr {ss tt ys : List PySem.Str} (h : WordOrd ss ys) (e : ∀ k, k ∈ ss ↔ k ∈ tt) : WordOrd tt ys := ⟨h.1, fun k => (h.2 k).trans (e k)⟩
/-- texts of one length -/
theorem wordOrd_one {zs : List PySem.Str} {n : Nat} (nd : zs.Nodup) (hz : zs.Pairwise fun x y => ¬ Lx y x) (h1 : ∀ k ∈ zs, k.length = n) : WordOrd zs zs := by
  refine ⟨?_, fun k => Iff.rfl⟩
  rw [List.pairwise_iff_getElem] at hz ⊢
  intro i j hi hj hij
  refine .inr ⟨(h1 _ (List.getElem_mem _)).trans (h1 _ (List.getElem_mem _)).symm, ?_⟩
  rcases lx_tri zs[i] zs[j] with d | d | d
  · exact d
  · exact absurd d (List.pairwise_iff_getElem.mp nd i j hi hj hij)
  · exact absurd d (hz i j hi hj hij)
open Classical in
/-- the list itself -/
def wordOrd (ss : List PySem.Str) : List PySem.Str := if h : ∃ ys, WordOrd ss ys then h.choose else []
theorem WordOrd.eq {ss ys : List PySem.Str} (h : WordOrd ss ys) : ys = wordOrd ss := by
  unfold wordOrd
  rw [dif_pos ⟨ys, h⟩]
  exact h.unique (Exists.choose_spec (⟨ys, h⟩ : ∃ ys, WordOrd ss ys)) fun k => Iff.rfl
theorem wordOrd_congr {ss tt : List PySem.Str} (e : ∀ k, k ∈ ss ↔ k ∈ tt) : wordOrd ss = wordOrd tt := by
  by_cases h : ∃ ys, WordOrd ss ys
  · obtain ⟨ys, h⟩ := h
    rw [← h.eq, ← (h.congr e).eq]
  · have h' : ¬ ∃ ys, WordOrd tt ys := fun ⟨ys, q⟩ => h ⟨ys, q.congr fun k => (e k).symm⟩
    unfold wordOrd
    rw [dif_neg h, dif_neg h']
end TS
end
/-! TD3 -/
set_option linter.all false
set_option maxRecDepth 100000
set_option maxHeartbeats 4000000
noncomputable section
namespace TS
open PySem PySem.Spec PyProof.Rows L2 PySem.Froz Evl

section
variable {K : PySem.W.Frag} {P : Program} {w : World} {σ : L2.St} {H H1 : Hp} {te : TE} {xs : List V} {ss : List PySem.Str}
theorem strV_map (ss : List PySem.Str) : (ss.map V.str).map strV = ss := by
  rw [List.map_map]
  exact (List.map_congr_left fun a _ => rfl).trans (List.map_id ss)
theorem into_nodup (ss : List PySem.Str) : (intoSet [] ss).Nodup := intoSet_nodup ss [] List.nodup_nil
theorem into_mem (ss : List PySem.Str) (k : PySem.Str) : k ∈ intoSet [] ss ↔ k ∈ ss := by
  rw [intoSet_mem]; simp
theorem into_len (ss : List PySem.Str) : (intoSet [] ss).length ≤ ss.length := by
  have z := intoSet_len ss []
  simpa using z

/-- set(x), x a list or a tuple of texts -/
theorem ek_setNew {x : V} (h : Ev te σ H x) (hx : SqE K H x (ss.map V.str)) (hz : ss.length ≤ 4000) : EvK P w .set (tCB (rSetNew P w K) (tCons te tNil)) σ H (ss.map V.str) := fun H1 e Q q => h H1 e _ fun H2 e2 => by
  obtain ⟨a, rfl, hs⟩ := hx
  have hT : TextsV K H2 (.ref a) ss := hs.elim (fun s => .inl ⟨a, rfl, ex_l (e.trans e2) s⟩) fun s => .inr (.inl ⟨a, rfl, ex_t (e.trans e2) s⟩)
  refine ⟨_, ss, rfl, hT, hz, fun p hp => q p _ (fresh_back e2 hp) (e2.trans (Ex.new hp)) ?_⟩
  rw [upd_same]
  show some (SetS P w p (intoSet [] ss)) = some (SetS P w p (intoSet [] ((ss.map V.str).map strV)))
  rw [strV_map]
/-- sorted(a set of texts) -/
theorem el_sortSet (h : EvK P w .set te σ H (ss.map V.str)) (hz : ss.length ≤ 4000) (H1 : Hp) (e : Ex H H1) (Q : VK)
    (q : ∀ (zs : List PySem.Str) (p : Addr) (H2 : Hp), zs.Nodup → zs.Pairwise (fun x y => ¬ Lx y x) → (∀ k, k ∈ zs ↔ k ∈ ss) → H1 p = none → Ex H1 H2 → H2 p = some (.lst (zs.map V.str)) → Q (.ref p) H2) : tCB (rSortedSet P w) (tCons te tNil) σ H1 Q :=
  h H1 e _ fun p H2 hp e2 h2 => by
    have h2' : H2 p = some (SetS P w p (intoSet [] ss)) := by
      rw [h2]
      show some (SetS P w p (intoSet [] ((ss.map V.str).map strV))) = _
      rw [strV_map]
    refine ⟨p, intoSet [] ss, rfl, h2', into_nodup ss, Nat.le_trans (into_len ss) hz, fun ys l hy hs hl => ?_⟩
    exact q ys l _ (hy.nodup_iff.mpr (into_nodup ss)) (sortedS_pw hs) (fun k => hy.mem_iff.trans (into_mem ss k)) (fresh_back e2 hl) (e2.trans (Ex.new hl)) upd_same
/-- sorted(a set of texts of one length) -/
theorem el_sortOne {n : Nat} (h : EvK P w .set te σ H (ss.map V.str)) (hz : ss.length ≤ 4000) (h1 : ∀ k ∈ ss, k.length = n) : EvL (tCB (rSortedSet P w) (tCons te tNil)) σ H ((wordOrd ss).map V.str) := fun H1 e Q q =>
  el_sortSet h hz H1 e Q fun zs p H2 nd pw mem hp e2 h2 => q p H2 hp e2 (by
    rw [h2, ((wordOrd_one nd pw fun k hk => h1 k ((mem k).mp hk)).congr mem).eq])
/-- sorted(sorted(set(x)), key=len) -/
theorem el_wordSet (h : EvK P w .set te σ H (ss.map V.str)) (hz : ss.length ≤ 4000) (hb : ∀ z ∈ ss, z.length ≤ 1000000) : EvL (tKey (rSortLen K) (tCB (rSortedSet P w) (tCons te tNil))) σ H ((wordOrd ss).map V.str) := fun H1 e Q q =>
  el_sortSet h hz H1 e _ fun zs p H2 nd pw mem hp e2 h2 => by
    refine ⟨p, zs, rfl, sq_of h2, fun z hz => hb z ((mem z).mp hz), fun ys l y1 y2 y3 hl => q l _ (fresh_back e2 hl) (e2.trans (Ex.new hl)) ?_⟩
    rw [upd_same, ((wordOrd_of nd pw y1 y2 y3).congr mem).eq]
/-- sorted(sorted(found, key=str), key=len), no text twice -/
theorem el_wordList {a : Addr} (h : Ev te σ H (.ref a)) (hx : SqL K H a (ss.map V.str)) (nd : ss.Nodup) (hb : ∀ z ∈ ss, z.length ≤ 1000000) : EvL (tKey (rSortLen K) (tKey (rSortStr K) te)) σ H ((wordOrd ss).map V.str) := fun H1 e Q q =>
  h H1 e _ fun H2 e2 => ⟨a, ss, rfl, ex_l (e.trans e2) hx, fun zs p z1 z2 hp => ⟨p, zs, rfl, sq_of upd_same, fun z hz => hb z (z1.mem_iff.mp hz), fun ys l y1 y2 y3 hl => q l _ (fresh_back (e2.trans (Ex.new hp)) hl) ((e2.trans (Ex.new hp)).trans (Ex.new hl)) (by
    rw [upd_same, ((wordOrd_of (z1.nodup_iff.mpr nd) z2 y1 y2 y3).congr fun k => z1.mem_iff).eq])⟩⟩
end
end TS
end
/-! TX1 -/
set_option linter.all false
set_option maxRecDepth 100000
set_option maxHeartbeats 4000000
noncomputable section
namespace TS
open PySem PySem.Spec PyProof.Rows L2 PySem.Froz Evl

/-- what is asked of an own exception class with its own __init__ -/
structure XC (K : PySem.W.Frag) (C : Addr) : Prop where
  oex : OexC K C
  cl : (PySem.W.clsIn K C).isSome = true
  ga : PySem.W.findIn K (.ref C) "__getattribute__" = some (some (.builtin "BaseException.__getattribute__"))
  gg : PySem.W.findIn K (.ref C) "__getattr__" = some none
  ha : PySem.W.findIn K (.ref C) "__class__" = some (some (.builtin "object.__class__"))
  hn : PySem.W.specialIn K (.builtin "object.__class__") "__get__" = some (some (.builtin "getset_descriptor.__get__"))
  ht : PySem.W.takesIn K (.builtin "object.__class__") = some true
  hm : PySem.W.mroIn K C (.type "object") = some true
  hd : PySem.W.hasDictIn K C = true

/-- the exception's dict, where it has one -/
def XDict (H : Hp) (d : Option Addr) : Prop := d = none ∨ ∃ dx fs, d = some dx ∧ (H dx = some (exd dx fs) ∨ H dx = some (.xd fs))
theorem XDict.mono {H H' : Hp} {d : Option Addr} (e : Ex H H') (h : XDict H d) : XDict H' d := by
  rcases h with h | ⟨dx, fs, h, h1 | h1⟩
  · exact .inl h
  · exact .inr ⟨dx, fs, h, .inl (e _ _ h1)⟩
  · exact .inr ⟨dx, fs, h, .inr (e _ _ h1)⟩
theorem xdict_ns {P : Program} {w : World} {H : Hp} {h : Heap} {dx : Addr} {fs : List (PySem.Str × V)} (hok : HOk P w H h) (h1 : H dx = some (exd dx fs) ∨ H dx = some (.xd fs)) : ∃ mA, h.Ns1 dx mA ∧ ∀ f, RelO (fs.lookup f) (mA f) := by
  rcases h1 with h1 | h1
  · exact exd_at hok h1
  · exact hok dx _ h1
theorem xinst {P : Program} {w : World} {H : Hp} {h : Heap} {a C : Addr} {oe : Obj} {d : Option Addr} (hok : HOk P w H h) (hx : XDict H d) (ho : h.get? a = some oe) (hz : Zc (.ref C) d oe) (hf : ∃ vs, oe.data = .fields vs) : ∃ od, PySem.W.InstAt h a oe C od := by
  obtain ⟨vs, hv⟩ := hf
  have n : PySem.W.notCls oe := by unfold PySem.W.notCls; rw [hv] <;> trivial
  rcases hx with rfl | ⟨dx, fs, rfl, h1⟩
  · exact ⟨none, ho, hz.1, n, by rw [hz.2]; trivial⟩
  · obtain ⟨mA, hns, _⟩ := xdict_ns hok h1
    obtain ⟨od, hd, _⟩ := lookIn_ns hns
    exact ⟨some od, ho, hz.1, n, by rw [hz.2]; exact hd⟩
theorem XC.kit {K : PySem.W.Frag} {C a : Addr} {oe : Obj} {od : Option Obj} (T : XC K C) : PySem.W.KitX K (.ref a) (.ref C) fun h => PySem.W.InstAt h a oe C od := PySem.W.kitx_exc T.cl T.ga T.gg T.oex.exC T.ha T.hn T.ht T.hm

/-! ### isinstance of an exception that is a value, of one that is caught -/
def IsOne (K : PySem.W.Frag) (C : Addr) (c : V) (b : Bool) : Prop := ∃ u, ClsV c u ∧ PySem.W.kitOne K (.ref C) u = some b
def IsTup (K : PySem.W.Frag) (C : Addr) (cs : List V) (b : Bool) : Prop := ∃ us, Paired ClsV cs us ∧ PySem.W.kitAny K (.ref C) us = some b
def rIsX (K : PySem.W.Frag) : List V → Hp → VK → Prop := fun xs H Q => ∃ (a C : Addr) (d : Option Addr) (c : V) (b : Bool), xs = [.ref a, c] ∧ XC K C ∧ H a = some (exo a C d) ∧ XDict H d ∧ IsOne K C c b ∧ Q (.bl b) H
def rIsC (K : PySem.W.Frag) (a : Addr) (cls : Value) (d : Option Addr) : List V → Hp → VK → Prop := fun xs H Q => ∃ (C : Addr) (c : V) (b : Bool), xs = [.ref a, c] ∧ cls = .ref C ∧ XC K C ∧ XDict H d ∧ IsOne K C c b ∧ Q (.bl b) H
def rIsCT (K : PySem.W.Frag) (a : Addr) (cls : Value) (d : Option Addr) : List V → Hp → VK → Prop := fun xs H Q => ∃ (C tp : Addr) (cs : List V) (b : Bool), xs = [.ref a, .ref tp] ∧ cls = .ref C ∧ XC K C ∧ XDict H d ∧ H tp = some (.tup cs) ∧ IsTup K C cs b ∧ Q (.bl b) H
section
variable {X : Cx}
theorem call_isX : CallR X (.builtin "isinstance") (rIsX X.K) := by
  intro pins s σ H xs us Q I r h
  obtain ⟨a, C, d, c, b, rfl, T, ha, hx, ⟨u, k, e⟩, q⟩ := h
  obtain ⟨u1, u2, rfl, r1, r2⟩ := vals2 r
  obtain rfl : u1 = Value.ref a := r1
  have e2 := k.eq r2
  subst e2
  obtain ⟨t1, ho⟩ := exo_at I.hok ha
  obtain ⟨od, J⟩ := xinst I.hok hx ho ⟨rfl, rfl⟩ ⟨_, rfl⟩
  exact PySem.W.kia_one T.kit I.kIn J e (fun z => nomatch z) fun tk => ⟨.bl b, H, I.tok tk, rfl, q⟩
variable {a : Addr} {oe : Obj} {cls : Value} {d : Option Addr} {pn : List (Addr × Obj)}
theorem call_isC (hz : Zc cls d oe) (hf : ∃ vs, oe.data = .fields vs) : CallR (X.suite a ((a, oe) :: pn)) (.builtin "isinstance") (rIsC X.K a cls d) := by
  intro pins s σ H xs us Q I r h
  obtain ⟨C, c, b, rfl, rfl, T, hx, ⟨u, k, e⟩, q⟩ := h
  obtain ⟨u1, u2, rfl, r1, r2⟩ := vals2 r
  obtain rfl : u1 = Value.ref a := r1
  have e2 := k.eq r2
  subst e2
  obtain ⟨ho, _⟩ := I.pin (a, oe) (List.mem_append_left _ List.mem_cons_self)
  obtain ⟨od, J⟩ := xinst I.hok hx ho hz hf
  exact PySem.W.kia_one T.kit I.kIn J e (fun z => nomatch z) fun tk => ⟨.bl b, H, I.tok tk, rfl, q⟩
theorem call_isCT (hz : Zc cls d oe) (hf : ∃ vs, oe.data = .fields vs) : CallR (X.suite a ((a, oe) :: pn)) (.builtin "isinstance") (rIsCT X.K a cls d) := by
  intro pins s σ H xs us Q I r h
  obtain ⟨C, tp, cs, b, rfl, rfl, T, hx, hT, ⟨ws, k, e⟩, q⟩ := h
  obtain ⟨u1, u2, rfl, r1, r2⟩ := vals2 r
  obtain rfl : u1 = Value.ref a := r1
  obtain rfl : u2 = Value.ref tp := r2
  obtain ⟨ho, _⟩ := I.pin (a, oe) (List.mem_append_left _ List.mem_cons_self)
  obtain ⟨od, J⟩ := xinst I.hok hx ho hz hf
  obtain ⟨_, its, rv, o, h1, h2, n, h3⟩ := I.hok tp _ hT
  have e3 := ClsV.all k rv
  subst e3
  obtain ⟨oc, od', dt, sl⟩ := o
  simp only at h2 h3
  subst h2 h3
  exact PySem.W.kia_tup T.kit I.kIn J h1 e (fun z => nomatch z) fun tk => ⟨.bl b, H, I.tok tk, rfl, q⟩

/-! ### a field of an exception that is a value -/
def tXv (K : PySem.W.Frag) (n : PySem.Str) (te : TE) : TE := fun σ H Q => te σ H fun x H1 => ∃ (a C dx : Addr) (fs : List (PySem.Str × V)) (v : V), x = .ref a ∧ XC K C ∧ PySem.W.findIn K (.ref C) n = some none ∧ H1 a = some (exo a C (some dx)) ∧ H1 dx = some (exd dx fs) ∧ fs.lookup n = some v ∧ Q v H1
theorem pe_xv {e : Expr} {te : TE} {pos : Pos} {n : PySem.Str} (he : PE X e te) (hb : attributeBase e n X.env (eval e X.env) = eval e X.env := by rfl) : PE X (.Attribute e n pos) (tXv X.K n te) := by
  refine ⟨fun pins s σ H Q I h => attr_of hb (thn (he.run pins s σ H _ I h) fun u s1 hh => ?_)⟩
  obtain ⟨x, H1, I1, rx, a, C, dx, fs, v, rfl, T, hno, ha, hd, l, q⟩ := hh
  obtain rfl : u = Value.ref a := rx
  obtain ⟨t1, ho⟩ := exo_at I1.hok ha
  obtain ⟨mA, hns, hr⟩ := exd_at I1.hok hd
  obtain ⟨od, hod, hl⟩ := lookIn_ns hns
  obtain ⟨u, hu, ru⟩ := RelO.some_of (v := v) (o := mA n) (by rw [← l]; exact hr n)
  exact HandSPX.exc_get I1.kIn ⟨ho, rfl, rfl, hod⟩ T.ga T.gg T.oex.exC (PySem.W.findObj_own T.hd hno rfl (by rw [hl, hu])) (handed_of ru) ⟨v, H1, I1.tok _, ru, q⟩

/-! ### C(..), C's own __init__ keeping its promise, as a value -/
def tMkV (C : Addr) (sp : Sp) (dvs : List V) (ta : TA) : TE := fun σ H Q => ta σ H fun vs H1 => vs.length ≤ 1000 ∧ ∀ a, H1 a = none → sp (.ref a :: (vs ++ dvs)) (upd H1 a (exo a C none)) (fun v H2 => v = .non ∧ Q (.ref a) H2) (fun _ _ _ => False)
theorem mkv_run {CX : CXT} {C fI : Addr} {k : Nat} {fd : FuncData} {ps : List PySem.Str} {sp : Sp} {ds : List Value} {dvs : List V} (T : OexC X.K C) (iC : PySem.W.findIn X.K (.ref C) "__init__" = some (some (.ref fI))) (tI : PySem.W.typeIn X.K (.ref fI) = some (.type "function"))
    (F1 : FnOk X.prog X.w X.K X.mg X.base CX k fI fd ps sp) (hr : Room (k + 1) X.A) (hb : Binds X.K fd ps ds) (hd : Vals dvs ds) (hx : Passes CX X (fun _ _ _ => False)) {pins : List (Addr × Obj)} {s1 : Shared} {σ : L2.St} {H1 : Hp} {Q : VK} {vs : List V} {us : List Value} (I1 : Inv X pins σ H1 s1) (r1 : Vals vs us)
    (hz : vs.length ≤ 1000) (q1 : ∀ a, H1 a = none → sp (.ref a :: (vs ++ dvs)) (upd H1 a (exo a C none)) (fun v H2 => v = .non ∧ Q (.ref a) H2) (fun _ _ _ => False)) : wpAny (model X.prog X.w) X.A (call (.ref C) us) (EP X pins σ Q) X.xe s1 := by
  obtain ⟨nm, q, N, bs, bm, sn, sub, ab, col, dd, k0, k1, k2, k3, k5, hC, hbm⟩ := T.cls
  obtain ⟨hp, g, dr, tk, os⟩ := s1
  have hn : H1 (hp.objs.size + 1) = none := I1.hok.fresh (Nat.le_succ _)
  have hq := q1 (hp.objs.size + 1) hn
  have kk : ∀ b o, hp.get? b = some o → ((hp.push (PySem.W.kdv_tup us)).push (PySem.HandSPX.excO C hp.objs.size)).get? b = some o := fun b o e => Heap.get?_push_of_some _ (Heap.get?_push_of_some _ e)
  have hget : ((hp.push (PySem.W.kdv_tup us)).push (PySem.HandSPX.excO C hp.objs.size)).get? (hp.objs.size + 1) = some (PySem.HandSPX.excO C hp.objs.size) := by heap_get
  have I2 := I1.laid (t' := tk) (a := hp.objs.size + 1) (o := exo (hp.objs.size + 1) C none) kk (Nat.le_succ _) (exo_ok hget)
  have r2 : Vals (V.ref (hp.objs.size + 1) :: (vs ++ dvs)) (Value.ref (hp.objs.size + 1) :: (us ++ ds)) := .cons rfl (r1.append hd)
  have hl : (Value.ref (hp.objs.size + 1) :: us ++ ds).length = ps.length := r2.length.symm.trans (F1.len _ _ _ _ hq)
  have hus : us.length ≤ sizeLine := by rw [← Paired.length r1, sizeLine_eq]; omega
  refine wpAny_call (PySem.HandSPX.call_own F.excBase_ValueError (fun Y => PySem.HandSPX.refsVE_contains Y bm hbm) (I1.kIn _ _ hC) (PySem.W.looks_findIn I1.kIn iC) (fun self => PySem.W.bind_fn I1.kIn self tI) hus
    (codeAny_mono (F1.run _ X.stack _ _ ⟨Value.ref (hp.objs.size + 1) :: us, []⟩ (Value.ref (hp.objs.size + 1) :: (us ++ ds)) _ _ (fun _ _ _ => False) (hr.make C us []) (I2.env0.make C us []) (hb _ (Value.ref (hp.objs.size + 1) :: us) I2.kIn hl) r2 hq) fun r s' hq' => ?_))
  match r, hq' with
  | .error er, hq' => exact hx pins σ _ _ er s' I2 hq'
  | .ok (.ret u), hq' =>
    obtain ⟨v, H2, os2, bare2, un2, hok2, rv, ev, q2⟩ := hq'
    subst ev
    exact ⟨rv, .ref (hp.objs.size + 1), H2, I2.call' (ch := []) os2 un2 hok2 bare2 (fun _ z => nomatch z), rfl, q2⟩
  | .ok .next, hq' => exact False.elim hq'
  | .ok .brk, hq' => exact False.elim hq'
  | .ok .cont, hq' => exact False.elim hq'
end
end TS
end
/-! TX2 -/
set_option linter.all false
set_option maxRecDepth 100000
set_option maxHeartbeats 4000000
noncomputable section
namespace TS
open PySem PySem.Spec PyProof.Rows L2 PySem.Froz Evl

/-- the fields that __init__(self, f, g, ..) lays, the last one first -/
def flds (fns : List PySem.Str) (ys : List V) : List (PySem.Str × V) := (fns.zip ys).reverse
/-- __init__ of the class at C: self.f = f, for each of fns -/
def spInit (C : Addr) (fns : List PySem.Str) : Sp := fun vs H Q _ => ∃ (a : Addr) (ys : List V), vs = .ref a :: ys ∧ ys.length = fns.length ∧ H a = some (exo a C none) ∧ (fns = [] → Q .non H) ∧
  ∀ (dx : Addr) (H' : Hp), H dx = none → dx ≠ a → (∀ b o, b ≠ a → H b = some o → H' b = some o) → H' a = some (exo a C (some dx)) → H' dx = some (exd dx (flds fns ys)) → Q .non H'

/-- an exception of the class at C with these fields -/
def XAt (H : Hp) (x : V) (C : Addr) (fs : List (PySem.Str × V)) : Prop := ∃ (a : Addr) (d : Option Addr), x = .ref a ∧ H a = some (exo a C d) ∧ ((d = none ∧ fs = []) ∨ ∃ dx, d = some dx ∧ H dx = some (exd dx fs))
theorem XAt.mono {H H' : Hp} {x : V} {C : Addr} {fs : List (PySem.Str × V)} (e : Ex H H') (h : XAt H x C fs) : XAt H' x C fs := by
  obtain ⟨a, d, rfl, h1, h2⟩ := h
  refine ⟨a, d, rfl, e _ _ h1, h2.elim .inl fun ⟨dx, h3, h4⟩ => .inr ⟨dx, h3, e _ _ h4⟩⟩
theorem XAt.dict {H : Hp} {x : V} {C : Addr} {fs : List (PySem.Str × V)} (h : XAt H x C fs) : ∃ a d, x = .ref a ∧ H a = some (exo a C d) ∧ XDict H d := by
  obtain ⟨a, d, rfl, h1, h2⟩ := h
  exact ⟨a, d, rfl, h1, h2.elim (fun z => .inl z.1) fun ⟨dx, h3, h4⟩ => .inr ⟨dx, fs, h3, .inl h4⟩⟩

section
variable {X : Cx} {e : Expr} {es : List Expr} {ta : TA} {p pos : Pos}
theorem pe_mkv {CX : CXT} {x : PySem.Str} {C fI : Addr} {k : Nat} {fd : FuncData} {ps : List PySem.Str} {sp : Sp} {ds : List Value} {dvs : List V} (T : OexC X.K C) (iC : PySem.W.findIn X.K (.ref C) "__init__" = some (some (.ref fI))) (tI : PySem.W.typeIn X.K (.ref fI) = some (.type "function"))
    (F1 : FnOk X.prog X.w X.K X.mg X.base CX k fI fd ps sp) (hr : Room (k + 1) X.A) (hb : Binds X.K fd ps ds) (hd : Vals dvs ds) (hx : Passes CX X (fun _ _ _ => False)) (hg : Gl X x) (hm : X.mg x = some (.ref C)) (ha : PA X (e :: es) ta)
    (hdb : (x == ("__debug__" : PySem.Str)) = false := by decide) (he : starEach (e :: es) X.env = (false, eval e X.env) :: starEach es X.env := by rfl) (hpl : (backTo pos (starEach es X.env)).any (·.1) = false := by rfl) :
    PE X (.Call (.Name x p) (e :: es) [] pos) (tMkV C sp dvs ta) := by
  refine ⟨fun pins s σ H Q I h => wpAny_Call_Name_kw (ld_glob I hg hm ?_ hdb)⟩
  exact PySem.W.callWith_K (h₀ := X.base) I.ok.mod.kin T.kC (thn (ha.run pos pins s σ H _ I h) fun us s1 ⟨vs, H1, I1, r1, hz, q1⟩ => ⟨I1.kIn, mkv_run T iC tI F1 hr hb hd hx I1 r1 hz q1⟩) he hpl
theorem pe_mkv0 {CX : CXT} {x : PySem.Str} {C fI : Addr} {k : Nat} {fd : FuncData} {ps : List PySem.Str} {sp : Sp} {ds : List Value} {dvs : List V} (T : OexC X.K C) (iC : PySem.W.findIn X.K (.ref C) "__init__" = some (some (.ref fI))) (tI : PySem.W.typeIn X.K (.ref fI) = some (.type "function"))
    (F1 : FnOk X.prog X.w X.K X.mg X.base CX k fI fd ps sp) (hr : Room (k + 1) X.A) (hb : Binds X.K fd ps ds) (hd : Vals dvs ds) (hx : Passes CX X (fun _ _ _ => False)) (hg : Gl X x) (hm : X.mg x = some (.ref C))
    (hdb : (x == ("__debug__" : PySem.Str)) = false := by decide) :
    PE X (.Call (.Name x p) [] [] pos) (tMkV C sp dvs tNil) := by
  refine ⟨fun pins s σ H Q I h => wpAny_Call_Name_kw (ld_glob I hg hm ?_ hdb)⟩
  have z := mkv_run (us := []) (vs := []) T iC tI F1 hr hb hd hx I .nil h.1 h.2
  exact PySem.W.callWith_K0 I.kIn T.kC z
end

/-! ### values of which something is true that stays so -/
def EvP (te : TE) (σ : L2.St) (H : Hp) (P : V → Hp → Prop) : Prop := ∀ H1, Ex H H1 → ∀ Q : VK, (∀ v H2, Ex H1 H2 → P v H2 → Q v H2) → te σ H1 Q
def EvAP (ta : TA) (σ : L2.St) (H : Hp) (P : List V → Hp → Prop) : Prop := ∀ H1, Ex H H1 → ∀ Q : List V → Hp → Prop, (∀ vs H2, Ex H1 H2 → P vs H2 → Q vs H2) → ta σ H1 Q
/-- a property of the values that stays -/
def Stays {α : Type} (P : α → Hp → Prop) : Prop := ∀ v H H', Ex H H' → P v H → P v H'
/-- xs one by one -/
inductive AllP {β : Type} (P : V → β → Hp → Prop) : List V → List β → Hp → Prop where
  | nil {H : Hp} : AllP P [] [] H
  | cons {H : Hp} {x : V} {b : β} {xs : List V} {bs : List β} (h : P x b H) (t : AllP P xs bs H) : AllP P (x :: xs) (b :: bs) H
theorem AllP.len {β : Type} {P : V → β → Hp → Prop} : ∀ {xs : List V} {bs : List β} {H : Hp}, AllP P xs bs H → xs.length = bs.length
  | _, _, _, .nil => rfl
  | _, _, _, .cons _ t => congrArg (· + 1) t.len
theorem AllP.at {β : Type} {P : V → β → Hp → Prop} : ∀ {xs : List V} {bs : List β} {H : Hp} {i : Nat} {b : β}, AllP P xs bs H → bs[i]? = some b → ∃ x, xs[i]? = some x ∧ P x b H
  | _, _, _, _, _, .nil, h => by simp at h
  | _, _, _, 0, _, .cons p _, h => by simp at h; subst h; exact ⟨_, rfl, p⟩
  | _, _, _, i + 1, _, .cons _ t, h => by
    obtain ⟨x, h1, h2⟩ := AllP.at (i := i) t (by simpa using h)
    exact ⟨x, by simpa using h1, h2⟩
theorem AllP.mono {β : Type} {P : V → β → Hp → Prop} (st : ∀ x b H H', Ex H H' → P x b H → P x b H') : ∀ {xs : List V} {bs : List β} {H H' : Hp}, Ex H H' → AllP P xs bs H → AllP P xs bs H'
  | _, _, _, _, _, .nil => .nil
  | _, _, _, _, e, .cons p t => .cons (st _ _ _ _ e p) (AllP.mono st e t)
theorem AllP.app {β : Type} {P : V → β → Hp → Prop} {ys : List V} {cs : List β} {H : Hp} (h2 : AllP P ys cs H) : ∀ {xs : List V} {bs : List β}, AllP P xs bs H → AllP P (xs ++ ys) (bs ++ cs) H
  | _, _, .nil => h2
  | _, _, .cons p t => .cons p (AllP.app h2 t)
section
variable {K : PySem.W.Frag} {σ : L2.St} {H : Hp} {te : TE} {ta tr : TA} {β : Type} {P : V → β → Hp → Prop}
theorem eap_nil : EvAP tNil σ H fun vs H' => AllP P vs ([] : List β) H' := fun H1 _ Q q => q [] H1 (Ex.refl H1) .nil
theorem eap_cons {b : β} {bs : List β} (st : ∀ x b H H', Ex H H' → P x b H → P x b H') (h : EvP te σ H fun v H' => P v b H') (hr : EvAP tr σ H fun vs H' => AllP P vs bs H') : EvAP (tCons te tr) σ H fun vs H' => AllP P vs (b :: bs) H' := fun H1 e Q q =>
  h H1 e _ fun v H2 e2 p => hr H2 (e.trans e2) _ fun vs H3 e3 a => q _ H3 (e2.trans e3) (.cons (st _ _ _ _ e3 p) a)
/-- a new list whose items are so -/
def EvLP (te : TE) (σ : L2.St) (H : Hp) (PL : List V → Hp → Prop) : Prop := ∀ H1, Ex H H1 → ∀ Q : VK, (∀ p vs H2, H1 p = none → Ex H1 H2 → H2 p = some (.lst vs) → PL vs H2 → Q (.ref p) H2) → te σ H1 Q
theorem elp_lst {bs : List β} (st : ∀ x b H H', Ex H H' → P x b H → P x b H') (h : EvAP ta σ H fun vs H' => AllP P vs bs H') (hl : bs.length ≤ 1000) : EvLP (tLst ta) σ H fun vs H' => AllP P vs bs H' := fun H1 e Q q =>
  h H1 e _ fun vs H2 e2 a => ⟨sz_of (by rw [a.len]; omega), fun p hp => q p vs _ (fresh_back e2 hp) (e2.trans (Ex.new hp)) upd_same (a.mono st (Ex.new hp))⟩
theorem evp_mkv {C : Addr} {fns : List PySem.Str} {ys : List V} (h : EvA ta σ H ys) (hl : ys.length = fns.length) (hz : ys.length ≤ 1000) : EvP (tMkV C (spInit C fns) [] ta) σ H fun x H' => XAt H' x C (flds fns ys) := fun H1 e Q q => h H1 e _ fun H2 e2 => by
  refine ⟨hz, fun a ha => ⟨a, ys ++ [], rfl, by rw [List.append_nil]; exact hl, upd_same, fun hn => ⟨rfl, ?_⟩, fun dx H' hd hne kp h1 h2 => ⟨rfl, ?_⟩⟩⟩
  · refine q _ _ (e2.trans (Ex.new ha)) ⟨a, none, rfl, upd_same, .inl ⟨rfl, ?_⟩⟩
    rw [hn]; rfl
  · rw [List.append_nil] at h2
    have k : Ex H2 H' := fun b o z => by
      have ne : b ≠ a := fun q => by rw [q, ha] at z; cases z
      exact kp b o ne (by rw [upd_ne ne]; exact z)
    exact q _ _ (e2.trans k) ⟨a, some dx, rfl, h1, .inr ⟨dx, rfl, h2⟩⟩

/-! ### what a def that raises promises -/
def RaiseF (C : Addr) (fs : List (PySem.Str × V)) (H : Hp) (E : XK) : Prop := ∀ (d : Addr) (H2 : Hp), H d = none → Ex H H2 → H2 d = some (.xd fs) → E (.ref C) (some d) H2
theorem RaiseF.go {C : Addr} {fs : List (PySem.Str × V)} {H' : Hp} {E : XK} (h : RaiseF C fs H E) (e : Ex H H') : RaiseF C fs H' E := fun d H2 hd e2 h2 => h d H2 (fresh_back e hd) (e.trans e2) h2
theorem mko_raise {C : Addr} {fns : List PySem.Str} {ys : List V} {H1 : Hp} {Q : XK} (h : EvA ta σ H ys) (hl : ys.length = fns.length) (hz : ys.length ≤ 1000) (hn : fns ≠ []) (e : Ex H H1) (q : RaiseF C (flds fns ys) H1 Q) : tMkO C (spInit C fns) [] ta σ H1 Q :=
  h H1 e _ fun H2 e2 => ⟨hz, fun a ha => ⟨a, ys ++ [], rfl, by rw [List.append_nil]; exact hl, upd_same, fun z => absurd z hn, fun dx H' hd hne kp h1 h2 => by
    rw [List.append_nil] at h2
    have hd2 : H2 dx = none := by rw [upd_ne hne] at hd; exact hd
    refine ⟨rfl, dx, _, h1, h2, hd2, q dx _ (fresh_back e2 hd2) (e2.trans fun b o z => ?_) upd_same⟩
    have na : b ≠ a := fun q => by rw [q, ha] at z; cases z
    have nd : b ≠ dx := fun q => by rw [q, hd2] at z; cases z
    rw [upd_ne nd, del_ne na]
    exact kp b o na (by rw [upd_ne na]; exact z)⟩⟩
end
end TS
end
/-! G1 -/
set_option linter.all false
set_option maxRecDepth 100000
set_option maxHeartbeats 4000000
noncomputable section
/-! a loop over a generator that goes no further than its first item -/
namespace TS
open PySem PySem.Spec PyProof.Rows L2 PySem.Froz Evl GenW

def NoEnd : GenEnd := fun _ _ _ _ => False
/-- the item that is handed out first, and all that stands then -/
def FirstY (P : Program) (w : World) (outer : List Env) (H : Hp) (s : Shared) (D : V → Hp → Prop) : Protocol := fun _ _ v t _ =>
  ∃ x H', RelV x v ∧ D x H' ∧ t.os = s.os ∧ AllBare t.gens ∧ Un (frs outer) [] H H' s.heap t.heap ∧ HOk P w H' t.heap ∧ t.heap.NoLimit
abbrev TF := L2.St → Hp → (V → Hp → Prop) → Prop
structure First (X : Cx) (body : List Stmt) (t : TF) : Prop where
  run : ∀ (A : Around) (Y : Protocol) (s₀ : Shared) (c : Code) (fs : List Frame) (K : Flow → Sem PySem.Fin) (J : Value → Sem PySem.Fin) (gd : Bool → Bool) (lv : List Value → List Value) (s : Shared) (σ : L2.St) (H : Hp) (D : V → Hp → Prop),
    A.over c fs = X.A → splitAtGen fs = none → fs.any Frame.guarded = false → gd false = false → X.env.scope.isCoroutine = false → interactive X.env = false →
    (∀ e s', X.xe e s' → Seg (model X.prog X.w) A NoEnd Y 1 s₀ c (J e) fs s') →
    (∀ σ' H' x v s' kap, Inv X [] σ' H' s' → RelV x v → D x H' → Y 0 s₀ v s' kap) →
    Inv X [] σ H s → t σ H D → Seg (model X.prog X.w) A NoEnd Y 1 s₀ c ((execs body X.env).wrap K J gd lv) fs s
section
variable {X : Cx} {st : Stmt} {rest : List Stmt}
theorem first_yield {e : Expr} {te : TE} {yp pos : Pos} (he : PE X e te) : First X (.Expr (.Yield (some e) yp) pos :: rest) te := by
  refine ⟨fun A Y s₀ c fs K J gd lv s σ H D ho hsp hg hgd hco hi hJ hY I ht => ?_⟩
  refine seg_execs_cons (seg_Expr_Yield hsp hgd hg ?_ hco hi)
  rw [ho]
  exact wpAny_mono (he.run [] s σ H _ I ht) (fun v s' ⟨x, H1, I1, rv, q⟩ kap _ => hY σ H1 x v s' kap I1 rv q) fun x s' hx => hJ x s' hx
theorem first_cons {t : TS} {u : TF} (a : PS X st t) (b : First X rest u) : First X (st :: rest) (fun σ H D => t { nx := fun σ' H' => u σ' H' D, rt := fun _ _ => False } σ H) := by
  refine ⟨fun A Y s₀ c fs K J gd lv s σ H D ho hsp hg hgd hco hi hJ hY I ht => ?_⟩
  refine seg_execs_cons (seg_wrap ?_)
  rw [ho]
  refine wpAny_mono (a.run [] s σ H _ I ht) (fun f s' hs => ?_) fun x s' hx => hJ x s' hx
  cases f with
  | next =>
    obtain ⟨σ1, H1, I1, q1⟩ := hs
    exact b.run A Y s₀ c fs K J gd lv s' σ1 H1 D ho hsp hg hgd hco hi hJ hY I1 q1
  | brk => exact hs.elim fun _ z => z.elim fun _ z => z.2.elim
  | cont => exact hs.elim fun _ z => z.elim fun _ z => z.2.elim
  | ret u => exact hs.elim fun _ z => z.elim fun _ z => z.elim fun _ z => z.2.2.elim
end
/-- a generator that has not begun, told by its first item -/
def FMade (P : Program) (w : World) (k : Nat) (outer : List Env) (H : Hp) (s : Shared) (D : V → Hp → Prop) (u : Value) (t : Shared) : Prop :=
  ∃ (a : Addr) (g : Nat) (c : Code), u = .ref a ∧ t.heap.IsGen a g ∧ t.gens[g]? = some (.fresh c) ∧ t.os = s.os ∧ AllBare t.gens ∧ t.heap.NoLimit ∧ (∀ b o, s.heap.get? b = some o → t.heap.get? b = some o) ∧
    ∀ (A : Around) (r : Shared), Room k A → A.frames = some outer → (∀ b o, t.heap.get? b = some o → r.heap.get? b = some o) → r.os = s.os → AllBare r.gens →
      Seg (model P w) A NoEnd (FirstY P w outer H s D) 1 r c ((model P w).den c) [] r
abbrev SpF := List V → Hp → (V → Hp → Prop) → Prop
structure GF1 (P : Program) (w : World) (K : PySem.W.Frag) (mg : PySem.Str → Option Value) (base : Heap) (k : Nat) (f : Addr) (fd : FuncData) (ps : List PySem.Str) (sp : SpF) : Prop where
  len : ∀ vs H D, sp vs H D → vs.length = ps.length
  run : ∀ (A : Around) (outer : List Env) (s : Shared) (H : Hp) (args : Args) (us : List Value) (vs : List V) (D : V → Hp → Prop), Room k A → Env0 P w K mg base A outer s H → BindsTo s fd args (ps.zip us) → Vals vs us → sp vs H D →
    codeAny (model P w) A (.call (.ref f) args) (fun r t => match r with | .ok (.ret u) => FMade P w k outer H s D u t | _ => False) s
abbrev EN : XK := fun _ _ _ => False
theorem cx_en {P : Program} {w : World} {outer : List Env} {H : Hp} {s t : Shared} {e : Value} (h : CX P w outer H s EN e t) : False := by
  obtain ⟨a, B, H', cls, d, z1, fl, z2, ub, z3, z4, z5, z6⟩ := h
  exact z6
theorem gf1_of {P : Program} {w : World} {K : PySem.W.Frag} {mg : PySem.Str → Option Value} {base : Heap} {k : Nat} {f : Addr} {name qual : PySem.Str} {params : Arguments} {body : List Stmt} {scope : Scope} {dV kV doc pm cdv ct oc : Value} {an od : Option Addr}
    {osl : Array (Option Value)} {N ps : List PySem.Str} {sp : SpF} (lk : K.lookup f = some ⟨oc, od, .func (PySem.W.fnOf name qual params body scope dV kV doc pm an cdv ct), osl⟩) (hcd : PySem.W.codeIn K cdv qual = true) (S : GScope N ps scope) (len : ∀ vs H D, sp vs H D → vs.length = ps.length)
    (hi : ∀ l, interactive (envOfC qual scope l f cdv) = false)
    (hbody : ∀ (A : Around) (outer : List Env) (s : Shared) (H : Hp) (vs : List V) (D : V → Hp → Prop), Room k (A.deeper (envOfC qual scope s.heap.objs.size f cdv)) → sp vs H D →
      ∃ t, First (gcxOf P w K mg base N qual scope f cdv A outer s H EN []) body t ∧ t (start N vs) H D) :
    GF1 P w K mg base (k + 1) f (PySem.W.fnOf name qual params body scope dV kV doc pm an cdv ct) ps sp := by
  refine ⟨len, fun A outer s H args us vs D hr e0 hb r hsp => ?_⟩
  have hl := len _ _ _ hsp
  have KX : K.In s.heap := e0.mod.kin.keeps fun b o e => (e0.bs b o e).1
  have lim0 : s.heap.NoLimit := e0.mod.nolimit.keeps fun b o e => (e0.bs b o e).1
  refine codeAny_call_generator hr.depth (KX _ _ lk) rfl S.co S.gen rfl (PySem.W.codeRec_of KX hcd) (hb _ _ _ _ ?_)
  refine wpAny_newFunctionEnv_cells S.kind (fun ⟨n, v⟩ hy => (S.par n (List.of_mem_zip hy).1).elim .inl fun q => .inr ⟨q, PySem.W.cellsFrom_some _ _ _ (.inl q)⟩) fun env he t x => ?_
  subst he
  have lim1 : t.heap.NoLimit := lim0.keeps x.toInCall.keep
  refine ⟨lim1, ?_⟩
  obtain ⟨h1, tk, es1, hk1⟩ := x.done
  have os1 : t.os = s.os := by rw [es1]
  have gen1 : t.gens = s.gens := by rw [es1]
  have main : ∀ (go : Obj) (nm qn : Value) (tk2 : Nat), go.cls = .type "generator" → go.data = .fields #[.int t.gens.size 0, nm, qn] → go.slots = #[] → (∀ h : Heap, (h.push go).get? h.objs.size = some go) →
      FMade P w (k + 1) outer H s D (.ref t.heap.objs.size) { t with gens := t.gens.push (.fresh (.func body (envOfC qual scope s.heap.objs.size f cdv))), toks := tk2, heap := t.heap.push go } := by
    intro go nm qn tk2 hgc hgd0 hgs hgp
    refine ⟨t.heap.objs.size, t.gens.size, _, rfl, ⟨go, nm, qn, hgp _, hgc, hgd0, hgs⟩, Array.getElem?_push_size .., os1, AllBare.push (by rw [gen1]; exact e0.bare) rfl, lim1.keeps fun b o e => Heap.get?_push_of_some _ e,
      fun b o e => Heap.get?_push_of_some _ (x.toInCall.keep b o e), ?_⟩
    intro Aw s2 hrw hfr hk2 hos hba
    have e0w : Env0 P w K mg base Aw outer s H := ⟨hfr, e0.mod, e0.bs, e0.bsz, e0.funs, e0.frf, e0.hok, e0.bare⟩
    obtain ⟨tt, ht, hq⟩ := hbody Aw outer s H vs D (hrw.deeper _) hsp
    have I1 : Inv (gcxOf P w K mg base N qual scope f cdv Aw outer s H EN []) [] (start N vs) H t := inv_startG S hrw.hd e0w hl r x
    have kp2 : ∀ b o, t.heap.get? b = some o → s2.heap.get? b = some o := fun b o e => hk2 b o (Heap.get?_push_of_some _ e)
    have I2 : Inv (gcxOf P w K mg base N qual scope f cdv Aw outer s H EN []) [] (start N vs) H s2 := I1.call' (ch := []) (hos.trans os1.symm) (Un.kept kp2) (I1.hok.kept kp2) hba fun b z => by simp at z
    refine seg_func (ht.run Aw _ s2 _ [] _ _ _ _ s2 (start N vs) H D over_func rfl rfl rfl S.co (hi _) (fun e t1 hx => ?_) (fun σ1 H1 y v t1 kap J rv hD => ?_) I2 hq)
    · refine seg_wrap ?_
      rw [over_func]
      exact wpAny_mono (show wpAny (model P w) (Aw.deeper (envOfC qual scope s.heap.objs.size f cdv)) (leaving (envOfC qual scope s.heap.objs.size f cdv) e) (fun _ t2 => CX P w outer H s EN e t2 ∧ _) (fun _ _ => False) t1 from hx) (fun _ t2 q => (cx_en q.1).elim) fun _ t2 q => q.elim
    · exact ⟨y, H1, rv, hD, J.os, J.bare, J.base, J.hok, J.nolimit⟩
  exact main _ _ _ _ rfl rfl rfl fun h => Heap.get?_push_size _ rfl
end TS
end
/-! G2 -/
set_option linter.all false
set_option maxRecDepth 100000
set_option maxHeartbeats 4000000
noncomputable section
namespace TS
open PySem PySem.Spec PyProof.Rows L2 PySem.Froz Evl GenW

structure PFirst (X : Cx) (k : Nat) (e : Expr) (t : TF) : Prop where
  run : ∀ (pins : List (Addr × Obj)) (s : Shared) (σ : L2.St) (H : Hp) (D : V → Hp → Prop), Inv X pins σ H s → t σ H D → wpAny (model X.prog X.w) X.A (eval e X.env)
    (fun u s' => ∃ H1 sc, Inv X pins σ H1 sc ∧ FMade X.prog X.w k X.stack H1 sc D u s') X.xe s
def tCallF (sp : SpF) (dvs : List V) (t : TA) : TF := fun σ H D => t σ H fun vs H1 => sp (vs ++ dvs) H1 D
section
variable {X : Cx} {k : Nat} {f : Addr} {fd : FuncData} {ps : List PySem.Str} {sp : SpF} {dvs : List V} {ds : List Value} {x v : PySem.Str} {p pos px : Pos}
theorem pfirst_call {e : Expr} {es : List Expr} {t : TA} (F : GF1 X.prog X.w X.K X.mg X.base k f fd ps sp) (hr : Room k X.A) (hg : Gl X x) (hm : X.mg x = some (.ref f)) (hk : PySem.W.keepIn X.K (.ref f) = true) (hb : Binds X.K fd ps ds) (hd : Vals dvs ds)
    (ha : PA X (e :: es) t) (hdb : (x == ("__debug__" : PySem.Str)) = false := by decide) (he : starEach (e :: es) X.env = (false, eval e X.env) :: starEach es X.env := by rfl) (hpl : (backTo pos (starEach es X.env)).any (·.1) = false := by rfl) :
    PFirst X k (.Call (.Name x p) (e :: es) [] pos) (tCallF sp dvs t) := by
  refine ⟨fun pins s σ H D I h => wpAny_Call_Name_kw (ld_glob I hg hm ?_ hdb)⟩
  refine PySem.W.callWith_K (h₀ := X.base) I.ok.mod.kin hk (thn (ha.run pos pins s σ H _ I h) fun us s1 ⟨vs, H1, I1, r, q⟩ => ⟨I1.kIn, ?_⟩) he hpl
  have r2 : Vals (vs ++ dvs) (us ++ ds) := r.append hd
  have hl2 : (us ++ ds).length = ps.length := r2.length.symm.trans (F.len _ _ _ q)
  refine wpAny_call (codeAny_mono (F.run X.A X.stack s1 H1 ⟨us, []⟩ (us ++ ds) (vs ++ dvs) D hr I1.env0 (hb s1 us I1.kIn hl2) r2 q) fun r s' hq => ?_)
  cases r with
  | error e => exact hq.elim
  | ok fl =>
    cases fl with
    | ret u => exact ⟨H1, s1, I1, hq⟩
    | next => exact hq.elim
    | brk => exact hq.elim
    | cont => exact hq.elim
def tFor1 (tf : TF) (g : TG) (tb : TS) : TS := fun D σ H => tf σ H fun x H1 => g x σ H1 fun σ2 H2 => tb { nx := fun _ _ => False, ct := fun _ _ => False, rt := D.rt, bk := D.nx } σ2 H2
/-- for v in g(..): the body never comes to its end -/
theorem ps_for1 {iter : Expr} {body : List Stmt} {tf : TF} {g : TG} {tb : TS} (hp : PassesOwn (model X.prog X.w) X.A X.env X.xe) (hi : PFirst X k iter tf) (hr : Room (k + 1) X.A) (hg : PG X (.Name v px) g) (hb : PSs X body tb)
    (hs : ∀ x, foldedSetIterable iter X.env x = pure x := by intro _; rfl) : PS X (.For (.Name v px) iter body [] pos) (tFor1 tf g tb) := by
  refine ⟨fun pins s σ H D I h => ?_⟩
  refine wpAny_For (thn (hi.run pins s σ H _ I h) fun u s1 ⟨H1, sc, I1, a, n, c, eu, isg, hgs, hos, hba, hl, hk, wake⟩ => ?_) hs
  subst eu
  refine wpAny_pyIter_gen isg (codeAny_forLoop (fun m t => m = 0 ∧ t = s1) ?_ 0 ⟨rfl, rfl⟩)
  rintro m t ⟨rfl, rfl⟩
  have go : (GenState.fresh c).Goes (model X.prog X.w) X.A.in1 (fun n s₀ r s₁ => ((r = .ok (.ret .none) ∨ r = .ok .next) ∧ (fun _ _ _ => False : Nat → Shared → Shared → Prop) n s₀ s₁) ∨ ∃ e, r = .error e ∧ (fun _ _ => False : Value → Shared → Prop) e s₁) (FirstY X.prog X.w X.stack H1 sc fun x H2 => g x σ H2 fun σ2 H3 => tb { nx := fun _ _ => False, ct := fun _ _ => False, rt := D.rt, bk := D.nx } σ2 H3) 1 (.send .none) (t.setGen n .running) :=
    ⟨rfl, seg_imp (R := NoEnd) (Y := FirstY X.prog X.w X.stack H1 sc fun x H2 => g x σ H2 fun σ2 H3 => tb { nx := fun _ _ => False, ct := fun _ _ => False, rt := D.rt, bk := D.nx } σ2 H3) (fun _ _ _ _ z => False.elim z) (fun _ _ _ _ _ _ _ z => z) 1 (wake X.A.in1 (t.setGen n .running) hr.in1 I1.ok.frames (fun _ _ z => z) hos (allBare_setGen hba rfl))⟩
  refine wpAny_passesOwn hp (next_genG hr.hd hl hr.depth isg hgs go (fun u t1 gs' hbr hY => ?_) (fun _ z => False.elim z) fun _ _ z => False.elim z)
  obtain ⟨y, H2, ry, q, o1, b1, un, ok1, _⟩ := hY
  have I2 : Inv X pins σ H2 (t1.setGen n gs') := I1.call' (ch := []) o1 un ok1 (allBare_setGen b1 hbr) fun b z => by simp at z
  refine wpAny_passesOwn hp (thn (hg.run _ _ σ H2 y u _ I2 ry q) fun _ t2 ⟨σ3, H3, I3, q3⟩ => ?_)
  refine wpAny_passesOwn hp (thn (hb.run _ t2 σ3 H3 _ I3 q3) fun fl t3 q4 => ?_)
  cases fl with
  | next => exact q4.elim fun _ z => z.elim fun _ z => z.2.elim
  | cont => exact q4.elim fun _ z => z.elim fun _ z => z.2.elim
  | brk => exact q4
  | ret r => exact q4
end
end TS
end
/-! G3 -/
set_option linter.all false
set_option maxRecDepth 100000
set_option maxHeartbeats 4000000
noncomputable section
namespace TS
open PySem PySem.Spec PyProof.Rows L2 PySem.Froz Evl

/-! ### C.m(..), m a static method -/
structure SMet (K : PySem.W.Frag) (C : Addr) (mc : Value) (m : PySem.Str) (p g : Addr) : Prop where
  at_ : PySem.W.findCls K (.ref C) mc m = some (.get (.builtin "staticmethod.__get__") (.ref p) .none (.ref C))
  rc : ∃ rest, PySem.W.recIn K p "staticmethod" = some (.ref g :: rest)
  kp : PySem.W.keepIn K (.ref g) = true
def tSMeth (C : Addr) (sp : Sp) (dvs : List V) (E : XK) (ta : TE) (t : TA) : TE := fun σ H Q => ta σ H fun x H1 => x = .ref C ∧ t σ H1 fun vs H2 => sp (vs ++ dvs) H2 Q E
section
variable {X : Cx} {CX : CXT} {k : Nat} {C p g : Addr} {mc : Value} {fd : FuncData} {ps : List PySem.Str} {sp : Sp} {dvs : List V} {ds : List Value} {E : XK} {o e : Expr} {es : List Expr} {m : PySem.Str} {pos apos : Pos} {ta : TE} {t : TA} {pl : Sem Bool}
theorem pe_smeth (he : PE X o ta) (r : ClX.CRead X.K C mc) (c : SMet X.K C mc m p g) (F : FnOk X.prog X.w X.K X.mg X.base CX k g fd ps sp) (hr : Room k X.A) (hb : Binds X.K fd ps ds) (hd : Vals dvs ds) (hx : Passes CX X E) (ha : PA X (e :: es) t)
    (hst : starEach (e :: es) X.env = (false, eval e X.env) :: starEach es X.env := by rfl) (hpl : (backTo pos (starEach es X.env)).any (·.1) = false := by rfl)
    (ht : eval (.Call (.Attribute o m apos) (e :: es) [] pos) X.env = (eval o X.env >>= fun ov => standAt apos.atName >>= fun _ => holding [ov] (getMethod ov m pl) >>= fun fv =>
      callWith pos fv.1 fv.2 (backTo pos (starEach (e :: es) X.env)) (backToKw pos (keywordEach [] X.env))) := by rfl) :
    PE X (.Call (.Attribute o m apos) (e :: es) [] pos) (tSMeth C sp dvs E ta t) := by
  refine ⟨fun pins s σ H Q I h => PySem.W.methodCall_KW (pl := pl) (thn (he.run pins s σ H _ I h) fun u s1 ⟨x, H1, I1, rx, ex, q⟩ => ?_) ht⟩
  subst ex
  obtain rfl : u = Value.ref C := rx
  obtain ⟨rest, hp⟩ := c.rc
  refine PySem.W.method_cls I1.kIn r.ga (PySem.W.cls_bind I1.kIn r.rd c.at_ (wpAny_call (PySem.W.sm_get (s := { s1 with toks := s1.toks + 1 }) I1.kIn hp (PySem.W.handed_on rfl ?_))))
  exact PySem.W.callWith_K (first := []) (h₀ := X.base) I1.ok.mod.kin c.kp (thn (ha.run pos pins _ σ H1 _ (I1.tok (s1.toks + 1)) q) fun us s2 ⟨vs, H2, I2, rv, q2⟩ => ⟨I2.kIn, run_fn F hr hb hd hx I2 rv q2⟩) hst hpl
end

/-! ### C(*y, k = z), __init__(self, *v, k) -/
section
variable {M : Model} {A : Around} {E : Value → Shared → Prop} {s : Shared}
theorem lone_kw {f : Value} {x : Sem Value} {pos : Pos} {kws : List (Option PySem.Str × Sem Value)} {Q : Args → Shared → Prop} (hall : kws.all (·.1.isSome) = true)
    (h : wpAny M A x (fun v s₁ => wpAny M A (evalAll (kws.map (·.2))) (fun ws s₂ => PySem.W.StarOf M A E v (fun vs s₃ => Q ⟨vs, (kws.filterMap (·.1)).zip ws⟩ s₃) s₂) E s₁) E s) :
    wpAny M A (evalArgs f true [(true, (x >>= fun v => standAt pos >>= fun _ => pure v))] kws) Q E s := by
  unfold evalArgs
  first
    | refine wpAny_bind (wpAny_bind (wpAny_mono h (fun v s₁ h₁ => wpAny_bind (wpAny_standAt (wpAny_pure ?_))) fun _ _ x => x))
    | refine wpAny_bind (wpAny_bind (wpAny_bind (wpAny_mono h (fun v s₁ h₁ => wpAny_bind (wpAny_standAt (wpAny_pure (wpAny_pure ?_)))) fun _ _ x => x)))
  refine wpAny_holding ?_
  simp only [hall, if_true]
  refine wpAny_bind (wpAny_mono h₁ (fun ws s₂ h₂ => ?_) fun _ _ x => x)
  unfold PySem.W.StarOf at h₂
  refine wpAny_bind (wpAny_bind (wpAny_mono h₂ (fun b s₃ h₃ => ?_) fun _ _ x => x))
  obtain ⟨rfl, h₃⟩ := h₃
  have z := wpAny_holding (vs := ((kws.filterMap (·.1)).zip ws).map (·.2)) (wpAny_mono h₃ (fun vs s₄ h₄ => (wpAny_pure h₄ : wpAny M A (pure (⟨vs, (kws.filterMap (·.1)).zip ws⟩ : Args)) Q E s₄)) fun _ _ x => x)
  simp only [Bool.false_eq_true, if_false]
  exact z
theorem callWith_starKW {f : Value} {first : List Value} {pos : Pos} {Q : Value → Shared → Prop} {P : Heap → Prop} {args : List (Bool × Sem Value)} {kws : List (Option PySem.Str × Sem Value)} (hst : args.any (·.1) = true)
    (hk : ∀ h, P h → ∃ k, (k = Keeper.frame ∨ k = Keeper.machine ∨ k = Keeper.boundFrame) ∧ PySem.W.Looks M h (keeperOf f) k)
    (h : wpAny M A (evalArgs f true args kws) (fun a s₁ => P s₁.heap ∧ wpAny M A (call f (first ++ a.pos) a.kw) Q E s₁) E s) : wpAny M A (callWith pos f first args kws) Q E s := by
  unfold callWith
  refine wpAny_bind (wpAny_holding (wpAny_mono h (fun z t ht => wpAny_bind (wpAny_standAt ?_)) fun _ _ y => y))
  obtain ⟨kp, hkp, L⟩ := hk _ ht.1
  simp only [hst, Bool.true_or]
  refine wpAny_bind (L.here ?_)
  have fin : ∀ {t0 : Sem Value}, wpAny M A t0 Q E t → wpAny M A (t0 >>= fun r => holding [r] point >>= fun _ => pure r) Q E t :=
    fun h0 => wpAny_bind (wpAny_mono h0 (fun r s₂ hr => wpAny_bind (wpAny_holding (wpAny_point (wpAny_pure hr)))) fun _ _ y => y)
  have mk : ∀ v : Value, wpAny M A (callMarked v f (first ++ z.pos) z.kw) Q E t := fun v => by
    unfold callMarked
    exact Calls.wpAny_keep ht.2
  rcases hkp with rfl | rfl | rfl <;> dsimp only <;> first | exact fin (mk _) | exact fin (wpAny_operating ht.2)
end
/-- what a def that takes self, *below and one keyword promises: self, what is below, the keyword's value -/
abbrev SpK := V → List V → V → Hp → VK → XK → Prop
def FnSK (P : Program) (w : World) (K : PySem.W.Frag) (mg : PySem.Str → Option Value) (base : Heap) (CX : CXT) (k : Nat) (f : Addr) (nm : PySem.Str) (sp : SpK) : Prop :=
  ∀ (A : Around) (outer : List Env) (s : Shared) (H : Hp) (a : Value) (us : List Value) (z : Value) (x : V) (vs : List V) (y : V) (Q : VK) (E : XK), Room k A → Env0 P w K mg base A outer s H → RelV x a → Vals vs us → RelV y z → sp x vs y H Q E →
    codeAny (model P w) A (.call (.ref f) ⟨a :: us, [(nm, z)]⟩) (CR CX outer P w H s Q E) s
section
variable {CX : CXT} {P : Program} {w : World} {K : PySem.W.Frag} {mg : PySem.Str → Option Value} {base : Heap} {k : Nat} {f : Addr} {name qual : PySem.Str} {params : Arguments} {body : List Stmt} {scope : Scope} {dV kV doc pm cdv ct oc : Value} {an od : Option Addr}
  {osl : Array (Option Value)} {N : List PySem.Str} {p0 pk pv : PySem.Str} {sp : Sp}
theorem fn_starK (lk : K.lookup f = some ⟨oc, od, .func (PySem.W.fnOf name qual params body scope dV kV doc pm an cdv ct), osl⟩) (hcd : PySem.W.codeIn K cdv qual = true) (S : FnScope N [p0, pk, pv] scope) (hCX : StX.CXUp CX)
    (hb : ∀ (a : Value) (rest : List Value) (z : Value), bindArgs (PySem.W.fnOf name qual params body scope dV kV doc pm an cdv ct) ⟨a :: rest, [(pk, z)]⟩ = (newTuple rest >>= fun t => pure [(p0, a), (pk, z), (pv, t)]))
    (hbody : ∀ (A : Around) (outer : List Env) (s : Shared) (H : Hp) (vs : List V) (Q : VK) (E : XK), Room k (A.deeper (envOfC qual scope s.heap.objs.size f cdv)) → sp vs H Q E →
      ∃ t, PSs (cxOf CX P w K mg base N qual scope f cdv A outer s H E) body t ∧ t { nx := fun _ H' => Q .non H', rt := Q } (start N vs) H) :
    FnSK P w K mg base CX (k + 1) f pk (fun x vs y H Q E => vs.length ≤ sizeLine ∧ ∀ p, H p = Option.none → sp [x, y, V.ref p] (upd H p (.tup vs)) Q E) := by
  intro A outer s H a us z x vs y Q E hr e0 rx r ry ⟨hz, hq⟩
  have hn : H s.heap.objs.size = Option.none := e0.hok.fresh (Nat.le_refl _)
  have hl2 : us.length ≤ sizeLine := by rw [← r.length]; exact hz
  refine StX.run_bnd lk hcd S hr e0 (G := fun xs H2 => ∃ p, H p = Option.none ∧ xs = [x, y, V.ref p] ∧ H2 = upd H p (.tup vs)) (fun A' Ex Q' h => ?_) fun s2 H2 xs ⟨p, hp, ex, eH⟩ hr' => ?_
  · rw [hb]
    refine wpAny_bind (wpAny_newTuple (wpAny_pure ?_) hl2)
    have new : ObjOk P w (upd H s.heap.objs.size (.tup vs)) (s.heap.push ({ cls := .type "tuple", data := .seq us.toArray } : Obj)) s.heap.objs.size (.tup vs) := ⟨hz, us, r, ⟨_, Heap.get?_push_size _ rfl, rfl, _, rfl⟩⟩
    have un := StX.un_laid (fs := frs outer) (s := s) (o := ({ cls := .type "tuple", data := .seq us.toArray } : Obj)) (u := .tup vs) hn
    exact h _ _ [x, y, V.ref s.heap.objs.size] [a, z, Value.ref s.heap.objs.size] (StX.env0_laid e0 new) un rfl (fun e s' => hCX outer s H _ _ E e s' un (fun b o q => Heap.get?_push_of_some _ q) rfl) (.cons rx (.cons ry (.cons rfl .nil))) rfl ⟨_, hn, rfl, rfl⟩
  · subst ex eH
    exact hbody A outer s2 _ _ Q E hr' (hq p hp)
end
def tMakeSK (K : PySem.W.Frag) (C : Addr) (sp : SpK) (E : XK) (te : TE) (tk : TA) : TE := fun σ H Q => te σ H fun y H1 => tk σ H1 fun zs H2 => ∃ a xs z, y = V.ref a ∧ (SqT K H2 a xs ∨ SqL K H2 a xs) ∧ zs = [z] ∧
  ∀ x dx, H2 x = none → H2 dx = none → dx ≠ x → sp (.ref x) xs z (upd (upd H2 dx (.own x)) x (.ins C dx [])) (fun v H3 => v = .non ∧ Q (.ref x) H3) E
section
variable {X : Cx} {CX : CXT} {k : Nat} {f C : Addr} {sp : SpK} {E : XK} {x nm : PySem.Str} {p pos sp_ : Pos} {e : Expr} {kws : List Keyword} {te : TE} {tk : TA}
theorem pe_makeSK (M : Mk X.K C f) (F : FnSK X.prog X.w X.K X.mg X.base CX k f nm sp) (hr : Room (k + 1) X.A) (hg : Gl X x) (hm : X.mg x = some (.ref C)) (hx : Passes CX X E) (he : PE X e te) (hkw : PK X kws tk)
    (hall : (backToKw pos (keywordEach kws X.env)).all (·.1.isSome) = true := by rfl) (hks : (backToKw pos (keywordEach kws X.env)).filterMap (·.1) = [nm] := by rfl) (hdb : (x == ("__debug__" : PySem.Str)) = false := by decide)
    (hst : starEach [.Starred e sp_] X.env = [(true, eval e X.env)] := by rfl) :
    PE X (.Call (.Name x p) [.Starred e sp_] kws pos) (tMakeSK X.K C sp E te tk) := by
  refine ⟨fun pins s σ H Q I h => ?_⟩
  refine wpAny_Call_Name_kw (ld_glob I hg hm ?_ hdb)
  rw [hst]
  refine callWith_starKW (P := fun h => X.K.In h) rfl (fun h hh => PySem.W.keeps_K M.kp h hh) ?_
  refine lone_kw hall (thn (he.run pins s σ H _ I h) fun v s1 ⟨y, H1, I1, ry, q⟩ => thn (hkw.run pos pins s1 σ H1 _ I1 q) fun ws s2 ⟨zs, H2, I2, rz, a, xs, z, ey, hxs, ez, q2⟩ => ?_)
  subst ey ez
  obtain rfl : v = Value.ref a := ry
  rw [hks]
  obtain ⟨wz, rfl, rw0⟩ : ∃ wz, ws = [wz] ∧ RelV z wz := by
    cases rz with
    | cons r1 r2 => cases r2 with | nil => exact ⟨_, rfl, r1⟩
  refine StX.star_any I2 hxs fun us s3 I3 rv => ⟨I3.kIn, ?_⟩
  have hq := q2 (s3.heap.objs.size + 1) s3.heap.objs.size (I3.hok.fresh (Nat.le_succ _)) (I3.hok.fresh (Nat.le_refl _)) (Nat.ne_of_lt (Nat.lt_succ_self _))
  have I4 := Inv.made (C := C) I3
  refine wpAny_call (make_map (f := f) I3.kIn M.makes M.init (beq_iff_eq.mp M.fn) (codeAny_mono (F _ X.stack _ _ (Value.ref (s3.heap.objs.size + 1)) us wz _ _ _ _ E (hr.make C us [(nm, wz)]) (I4.env0.make C us [(nm, wz)]) (show RelV (V.ref (s3.heap.objs.size + 1)) _ from rfl) rv rw0 hq) fun r s' hq' => ?_))
  cases r with
  | error e => exact hx pins σ _ _ e s' I4 hq'
  | ok fl =>
    cases fl with
    | ret u =>
      obtain ⟨v, H', I5, rv', ev, q3⟩ := I4.after hq'
      subst ev
      exact ⟨rv', ⟨V.ref (s3.heap.objs.size + 1), H', I5, rfl, q3⟩⟩
    | next => exact hq'.elim
    | brk => exact hq'.elim
    | cont => exact hq'.elim
end
end TS
end
/-! G4 -/
set_option linter.all false
set_option maxRecDepth 100000
set_option maxHeartbeats 4000000
noncomputable section
/-! a loop over an instance whose __iter__ hands out a tuple's iterator -/
namespace TS
open PySem PySem.Spec PyProof.Rows L2 PySem.Froz Evl

/-- at it an iterator over the tuple at l -/
def ItT (l it : Addr) (i : Nat) : HO := .ext fun h => h.IsTupleIter it l i
theorem itT_ok {P : Program} {w : World} {H : Hp} {h : Heap} {l it : Addr} {i : Nat} (e : h.IsTupleIter it l i) : ObjOk P w H h it (ItT l it i) := ⟨e, let ⟨o, ho, _⟩ := e; ⟨o, ho⟩, fun _ _ q k => q.at fun o => k o⟩
section
variable {prog : Program} {w : World} {A : Around} {E : Value → Shared → Prop} {s : Shared} {l : Addr} {items : Array Value}
theorem call_iterTup {Q : Value → Shared → Prop} (hl : s.heap.IsTuple l items) (h : ∀ h', h' = s.heap.push { cls := .type "tuple_iterator", data := .fields #[.ref l, .int 0 0] } → Q (.ref s.heap.objs.size) { s with heap := h' }) : wpAny (model prog w) A (call (.builtin "iter") [.ref l]) Q E s := by
  refine Calls.call_function_entry (by decide +kernel) (by decide +kernel) PySem.W.kdk_entry_iter (PySem.W.kdk_args_iter _) ?_
  unfold Builtin.«iter»
  refine wpAny_bind (m := someArgs "iter" 1 2 _) (wpAny_of_eq (a := [Value.ref l]) (by first | rfl | kernel_rfl!) ?_)
  show wpAny _ _ (pyIter (.ref l) >>= _) _ _ _
  exact wpAny_bind (wpAny_pyIter_tuple hl (wpAny_pure ⟨_, rfl, h _ rfl⟩))
end
/-- iter(t), t a tuple; n: the frame's beginning -/
def rIterT (K : PySem.W.Frag) (n : Nat) : List V → Hp → VK → Prop := fun xs H Q => ∃ (l : Addr) (zs : List V), xs = [.ref l] ∧ SqT K H l zs ∧ ∀ it, H it = Option.none → n ≤ it → Q (.ref it) (upd H it (ItT l it 0))
theorem call_iterT {X : Cx} : CallR X (.builtin "iter") (rIterT X.K X.s_0.heap.objs.size) := by
  intro pins s σ H xs us Q I r h
  obtain ⟨l, zs, rfl, hq, q⟩ := h
  obtain rfl := Vals.ref1 r
  obtain ⟨its, rv, pl, hz⟩ := I.tuple hq
  refine call_iterTup (show s.heap.IsTuple l its.toArray from pl) fun h' eh => ?_
  subst eh
  exact ⟨.ref s.heap.objs.size, _, I.laid (t' := s.toks) (fun b u e => Heap.get?_push_of_some _ e) (Nat.le_refl _) (itT_ok ⟨_, Heap.get?_push_size _ rfl, rfl, rfl⟩), rfl, q _ (I.hok.fresh (Nat.le_refl _)) I.sz⟩

/-- a def's run at one state -/
theorem run_at {CX : CXT} {P : Program} {w : World} {K : PySem.W.Frag} {mg : PySem.Str → Option Value} {base : Heap} {k : Nat} {f : Addr} {name qual : PySem.Str} {params : Arguments} {body : List Stmt} {scope : Scope} {dV kV doc pm cdv ct oc : Value} {an od : Option Addr}
    {osl : Array (Option Value)} {N ps : List PySem.Str} {A : Around} {outer : List Env} {s : Shared} {H : Hp} {args : Args} {us : List Value} {vs : List V} {Q : VK} {E : XK} (lk : K.lookup f = some ⟨oc, od, .func (PySem.W.fnOf name qual params body scope dV kV doc pm an cdv ct), osl⟩) (hcd : PySem.W.codeIn K cdv qual = true) (S : FnScope N ps scope)
    (hl : vs.length = ps.length) (hr : Room (k + 1) A) (e0 : Env0 P w K mg base A outer s H) (hb : BindsTo s (PySem.W.fnOf name qual params body scope dV kV doc pm an cdv ct) args (ps.zip us)) (r : Vals vs us)
    (hbody : Room k (A.deeper (envOfC qual scope s.heap.objs.size f cdv)) → ∃ t, PSs (cxOf CX P w K mg base N qual scope f cdv A outer s H E) body t ∧ t { nx := fun _ H' => Q .non H', rt := Q } (start N vs) H) :
    codeAny (model P w) A (.call (.ref f) args) (CR CX outer P w H s Q E) s := by
  have KX : K.In s.heap := e0.mod.kin.keeps fun b o e => (e0.bs b o e).1
  refine codeAny_call_function hr.depth (KX _ _ lk) rfl S.co S.gen rfl (PySem.W.codeRec_of KX hcd) (hb _ _ _ _ (wpAny_newFunctionEnv_cells S.kind (fun ⟨n, v⟩ hy => (S.par n (List.of_mem_zip hy).1).elim .inl fun q => .inr ⟨q, PySem.W.cellsFrom_some _ _ _ (.inl q)⟩) fun env he t x => ?_))
  subst he
  have lim0 : s.heap.NoLimit := e0.mod.nolimit.keeps fun b o e => (e0.bs b o e).1
  refine ⟨lim0.keeps x.toInCall.keep, codeAny_func ?_⟩
  obtain ⟨tt, ht, hq⟩ := hbody (hr.deeper _)
  have I : Inv (cxOf CX P w K mg base N qual scope f cdv A outer s H E) [] (start N vs) H t := inv_start S hr.hd e0 hl r x
  refine wpAny_mono (ht.run [] t (start N vs) H _ I hq) (fun fl t1 hs => ?_) fun e t1 hs => hs
  cases fl with
  | ret u => exact hs.elim fun v z => z.elim fun σ1 z => z.elim fun H1 ⟨J, rv, q⟩ => ⟨v, H1, J.os, J.bare, J.base, J.hok, rv, q⟩
  | next => exact hs.elim fun σ1 z => z.elim fun H1 ⟨J, q⟩ => ⟨V.non, H1, J.os, J.bare, J.base, J.hok, rfl, q⟩
  | brk => exact hs.elim fun _ z => z.elim fun _ z => z.2.elim
  | cont => exact hs.elim fun _ z => z.elim fun _ z => z.2.elim

/-- __iter__(self): return iter(self.fld) -/
def FnIt (P : Program) (w : World) (K : PySem.W.Frag) (mg : PySem.Str → Option Value) (base : Heap) (k : Nat) (f C : Addr) (fld : PySem.Str) : Prop :=
  ∀ (A : Around) (outer : List Env) (s : Shared) (H : Hp) (a dx : Addr) (fs : List (PySem.Str × V)) (l : Addr) (zs : List V), Room k A → Env0 P w K mg base A outer s H → H a = some (.ins C dx fs) → fs.lookup fld = some (.ref l) → SqT K H l zs →
    codeAny (model P w) A (.call (.ref f) ⟨[.ref a], []⟩) (CR (CX P w) outer P w H s (fun v H' => ∃ it, v = .ref it ∧ s.heap.objs.size ≤ it ∧ H it = none ∧ H' = upd H it (ItT l it 0)) EN) s
theorem fnIt_of {P : Program} {w : World} {K : PySem.W.Frag} {mg : PySem.Str → Option Value} {base : Heap} {f C : Addr} {name qual fld : PySem.Str} {params : Arguments} {scope : Scope} {dV kV doc pm cdv ct oc : Value} {an od : Option Addr}
    {osl : Array (Option Value)} {p1 p2 p3 p4 p5 : Pos} (lk : K.lookup f = some ⟨oc, od, .func (PySem.W.fnOf name qual params [.Return (some (.Call (.Name "iter" p1) [.Attribute (.Name "self" p2) fld p3] [] p4)) p5] scope dV kV doc pm an cdv ct), osl⟩) (hcd : PySem.W.codeIn K cdv qual = true) (S : FnScope ["self"] ["self"] scope)
    (hb : ∀ (s : Shared) (a : Value), K.In s.heap → BindsTo s (PySem.W.fnOf name qual params [.Return (some (.Call (.Name "iter" p1) [.Attribute (.Name "self" p2) fld p3] [] p4)) p5] scope dV kV doc pm an cdv ct) ⟨[a], []⟩ [("self", a)]) (c : Cls K C) (n : NoAttr K C fld) (hm : mg "iter" = none)
    (hg : ∀ (CX : CXT) A outer s H E, Gl (cxOf CX P w K mg base ["self"] qual scope f cdv A outer s H E) "iter") : FnIt P w K mg base 1 f C fld := by
  intro A outer s H a dx fs l zs hr e0 ha hl ht
  have KX : K.In s.heap := e0.mod.kin.keeps fun b o e => (e0.bs b o e).1
  refine run_at lk hcd S (ps := ["self"]) (us := [.ref a]) (vs := [.ref a]) rfl hr e0 (hb s _ KX) (.cons rfl .nil) fun hr' => ?_
  refine ⟨_, pss_one (ps_ret (pe_callB call_iterT (hg _ _ _ _ _ _) hm (by decide +kernel) (pa_cons (pe_fld (pe_var (i := 0) rfl ((S.par "self" (List.Mem.head _)).elim (fun z => .inl z) (fun z => .inr (.inl z)))) rfl) pa_nil))), ?_⟩
  exact ⟨.ref a, rfl, a, C, dx, fs, .ref l, rfl, ha, c, n, hl, l, zs, rfl, ht, fun it hi hle => ⟨it, rfl, hle, hi, rfl⟩⟩
structure ItOwn (K : PySem.W.Frag) (C f : Addr) : Prop where
  it : PySem.W.findIn K (.ref C) "__iter__" = some (some (.ref f))
  itF : PySem.W.isFn K (.ref f) = true
def iOwnT (K : PySem.W.Frag) (C : Addr) (fld : PySem.Str) (te : TE) : TI := fun σ H R => te σ H fun x H1 => ∃ a dx fs l zs, x = .ref a ∧ H1 a = some (.ins C dx fs) ∧ fs.lookup fld = some (.ref l) ∧ SqT K H1 l zs ∧ R (Itt K l) H1
theorem pi_ownT {X : Cx} {tg e : Expr} {te : TE} {k : Nat} {f C : Addr} {fld : PySem.Str} (he : PE X e te) (c : ItOwn X.K C f) (F : FnIt X.prog X.w X.K X.mg X.base k f C fld) (hr : Room k X.A) : PI X tg e (iOwnT X.K C fld te) := by
  refine ⟨fun pins s σ H R I h => thn (he.run pins s σ H _ I h) fun v s1 ⟨x, H1, I1, r1, a, dx, fs, l, zs, ex, ha, hl, ht, q⟩ => ?_⟩
  subst ex
  obtain rfl : v = Value.ref a := r1
  obtain ⟨mA, J, _⟩ := ins_get I1.hok ha
  obtain ⟨od, J, _⟩ := J.look
  obtain ⟨m, hF⟩ := I1.fr
  refine PySem.W.owit_iter hF I1.ok.mod.kin J c.it c.itF (wpAny_call (codeAny_mono (F X.A X.stack s1 H1 a dx fs l zs hr I1.env0 ha hl ht) fun r s2 hq => ?_))
  cases r with
  | error e => exact (cx_en hq).elim
  | ok fl =>
    cases fl with
    | next => exact hq.elim
    | brk => exact hq.elim
    | cont => exact hq.elim
    | ret u =>
      obtain ⟨v, H', os, ba, un, ok2, rv, it, ev, hle, hn, eH⟩ := hq
      subst ev eH
      obtain rfl : u = Value.ref it := rv
      have I2 : Inv X pins σ (upd H1 it (ItT l it 0)) s2 := I1.call' (ch := []) os un ok2 ba fun b z => by simp at z
      have st : s2.heap.IsTupleIter it l 0 := (I2.hok it _ upd_same).1
      have I3 := ItX.inv_drop I2 (a := it) (φ := fun h => h.IsTupleIter it l 0) upd_same
      rw [ItX.dropH_upd hn] at I3
      unfold PySem.W.OwitIt
      refine wpAny_specialOf (name := Str.ofString "__next__") st.typeIs PySem.F.slot_tuple_iterator_next.lookup ?_
      refine ⟨it, [it], _, _, H1, rfl, I3, turn_tuple l it, st, fun b hb => ?_, q⟩
      have e : b = it := by simpa using hb
      subst e
      have z := ItX.inv_fp I2 (a := b) (u := ItT l b 0) upd_same (Nat.le_trans I1.sz hle)
      rw [ItX.dropH_upd hn] at z
      exact z
end TS
end
/-! G5 -/
set_option linter.all false
set_option maxRecDepth 100000
set_option maxHeartbeats 4000000
noncomputable section
/-! {**d, k: v} -/
namespace TS
open PySem PySem.Spec PyProof.Rows L2 PySem.Froz Evl
section
variable {prog : Program} {w : World} {K : Type} [DecidableEq K] {knd : KeyKind prog w K} {A : Around} {E : Value → Shared → Prop} {s : Shared}
theorem put_pairs {d : Addr} {kvs : List (K × Value)} {k : K} {key v : Value} {Q : Unit → Shared → Prop} (hkey : knd.is k key = true) (hm : s.heap.DictOf knd d kvs)
    (hQ : ∀ h', h'.DictOf knd d (stored kvs k v) → Heap.SameBut d s.heap h' → Q () { s with heap := h' })
    (hsz : kvs.length ≤ sizeLine) : wpAny (model prog w) A (dictPut d (knd.hash k) key v) Q E s := by
  obtain ⟨o, es, ep, ho, hc, hd, hk, hp, hn⟩ := hm
  have hes : es.size ≤ sizeLine := by
    have e1 := hp.length
    have e2 : es.toList.length = es.size := by simp
    omega
  unfold dictPut
  refine wpAny_bind (wpAny_dictFind_of hkey ho hd hk ?_)
  have hix : (es.findIdx? fun e => knd.is k e.key) = kvs.findIdx? fun kv => decide (kv.1 = k) := by
    rw [← hp.findIdx k]; obtain ⟨l⟩ := es; simp
  cases hi : es.findIdx? fun e => knd.is k e.key with
  | some i =>
    refine wpAny_updateDict ho hd (hQ _ ⟨_, _, ep, Heap.get?_update_self _ ho (Obj.isFreed_of_dict (Obj.data_mapDict hd _)), hc.mapDict _, Obj.data_mapDict hd _, hk.modify _ _, ?_, ?_⟩ (Heap.SameBut.update ..))
    · rw [stored, if_pos (any_of_findIdx_some (hix ▸ hi))]
      have hl : (es.toList.findIdx? fun e => knd.is k e.key) = some i := by rw [← hi]; obtain ⟨l⟩ := es; simp
      have z := hp.modify hn hl v
      obtain ⟨l⟩ := es
      simpa using z
    · rw [stored, if_pos (any_of_findIdx_some (hix ▸ hi)), keys_map_store]; exact hn
  | none =>
    have nk : k ∉ kvs.map (·.1) := not_mem_of_findIdx_none (hix ▸ hi)
    have na : ¬ (kvs.any fun kv => decide (kv.1 = k)) = true := by
      rw [List.any_eq_true]; rintro ⟨kv, h1, h2⟩
      exact nk (List.mem_map.mpr ⟨kv, h1, of_decide_eq_true h2⟩)
    refine wpAny_updateDictKeys (hz := hes) ho hd (hQ _ ⟨_, _, ep + 1, Heap.get?_update_self _ ho (Obj.isFreed_of_dict (Obj.data_mapDictKeys hd _)), hc.mapDictKeys _, Obj.data_mapDictKeys hd _, hk.push hkey _, ?_, ?_⟩ (Heap.SameBut.update ..))
    · rw [stored, if_neg na]
      have z := hp.append hkey (knd.hash k) v
      obtain ⟨l⟩ := es
      simpa using z
    · rw [stored, if_neg na, List.map_append, List.nodup_append]
      refine ⟨hn, by simp, fun a ha b hb => ?_⟩
      simp only [List.map_cons, List.map_nil, List.mem_singleton] at hb
      subst hb
      exact fun e => nk (e ▸ ha)
theorem wpAny_mergeMapping {d o : Addr} {kvs more : List (K × Value)} {Q : Unit → Shared → Prop} (hdo : d ≠ o) (hoS : (o == sysModules) = false) (hd : s.heap.DictOf knd d kvs) (ho : s.heap.DictOf knd o more)
    (hnr : ∀ k key, knd.is k key = true → ∀ a, key ≠ Value.ref a)
    (hQ : ∀ h', h'.DictOf knd d (merged kvs more) → h'.DictOf knd o more → Heap.SameBut d s.heap h' → Q () { s with heap := h' }) (hsz : kvs.length + more.length ≤ sizeLine) :
    wpAny (model prog w) A (mergeMapping d (.ref o) false) Q E s := by
  obtain ⟨od, esd, epd, hod, hcd, hdd, hkd, hpd, hnd⟩ := id hd
  obtain ⟨oo, eso, epo, hoo, hco, hdo', hko, hpo, hno⟩ := id ho
  have hlen : more.length = eso.size := by rw [← hpo.length]; simp
  have hT : s.TypeIs (.ref o) "dict" := ho.mapOf.typeIs
  unfold mergeMapping
  refine wpAny_bind (wpAny_isInstance (T := "dict") (b := true) hT (by rw [isSubtype_type]; kernel_rfl) ?_)
  dsimp only
  rw [if_pos rfl]
  refine wpAny_bind (wpAny_specialOf (name := Str.ofString "__iter__") hT F.slot_dict_iter.lookup (wpAny_bind (wpAny_pure ?_)))
  simp only [show (some (Value.builtin "dict.__iter__") == some (Value.builtin "dict.__iter__")) = true from by decide, hoS, Bool.false_eq_true, if_false]
  refine wpAny_bind (wpAny_dictEntries hod hdd ?_)
  have tail : wpAny (model prog w) A (dictEntries o >>= fun l => dictEpoch o >>= fun epoch => (forIn (List.range l.size) PUnit.unit fun i __s => (dictEntries o >>= fun l2 => match l2[i]? with
        | some e => holding [e.key, e.val] (dictPut d e.hash e.key e.val) >>= fun _ => dictEpoch o >>= fun ep2 => if (ep2 != epoch) = true then (unsupported "dict.changed-during-merge" : Sem Unit) >>= fun _ => pure (ForInStep.yield PUnit.unit) else pure (ForInStep.yield PUnit.unit)
        | _ => (unsupported "dict.changed-during-merge" : Sem Unit) >>= fun _ => pure (ForInStep.yield PUnit.unit) : Sem (ForInStep PUnit))) >>= fun _ => pure ()) Q E s := by
    refine wpAny_bind (wpAny_dictEntries hoo hdo' (wpAny_bind (wpAny_dictEpoch hoo hdo' (wpAny_bind ?_))))
    rw [List.range_eq_range']
    refine wpAny_forIn_list _ (fun rest _ t => ∃ h' i, t = { s with heap := h' } ∧ rest = List.range' i (eso.size - i) ∧ i ≤ eso.size ∧ h'.DictOf knd d (merged kvs (more.take i)) ∧ h'.get? o = some oo ∧ Heap.SameBut d s.heap h') _ ?_ ?_ _ _
      ⟨s.heap, 0, rfl, by simp, Nat.zero_le _, by simpa [merged] using hd, hoo, Heap.SameBut.refl _ _⟩
    · rintro x rest b t ⟨h', i, rfl, hr, hi, hd', ho2, hs'⟩
      have hlt : i < eso.size := by
        rcases Nat.lt_or_ge i eso.size with h | h
        · exact h
        · rw [Nat.sub_eq_zero_of_le h] at hr; simp at hr
      have e0 : eso.size - i = (eso.size - (i + 1)) + 1 := by omega
      rw [e0, List.range'_succ] at hr
      injection hr with h1 h2
      subst h1
      refine wpAny_bind (wpAny_dictEntries ho2 hdo' ?_)
      rw [Array.getElem?_eq_getElem hlt]
      obtain ⟨⟨k, v⟩, hkv⟩ : ∃ kv, more[x]? = some kv := ⟨more[x]'(by rw [hlen]; exact hlt), List.getElem?_eq_getElem _⟩
      obtain ⟨hkey, hval⟩ := hpo.get? (e := eso[x]) (by simp [hlt]) hkv
      obtain ⟨k2, hkey2, hhash⟩ := hko eso[x] (Array.getElem_mem hlt)
      obtain rfl : k2 = k := knd.inj _ _ _ hkey2 hkey
      show wpAny _ _ (holding [eso[x].key, eso[x].val] (dictPut d eso[x].hash eso[x].key eso[x].val) >>= _) _ _ _
      rw [hhash, hval]
      have hmx : (merged kvs (more.take x)).length ≤ sizeLine := by
        have e1 := merged_length_le kvs (more.take x)
        have e2 : (more.take x).length ≤ more.length := by rw [List.length_take]; omega
        omega
      refine wpAny_bind (wpAny_holding (put_pairs hkey hd' (fun h3 hd3 hs3 => ?_) hmx))
      have ho3 : h3.get? o = some oo := (hs3.2 o (Ne.symm hdo)).trans ho2
      refine wpAny_bind (wpAny_dictEpoch ho3 hdo' ?_)
      rw [if_neg (by simp)]
      exact wpAny_pure ⟨h3, x + 1, rfl, h2, hlt, by rw [merged_take_succ kvs more x (k2, v) hkv]; exact hd3, ho3, hs'.trans hs3⟩
    · rintro b t ⟨h', i, rfl, hr, hi, hd', ho2, hs'⟩
      have hin : i = eso.size := by
        rcases Nat.lt_or_ge i eso.size with h | h
        · have e : eso.size - i = (eso.size - (i + 1)) + 1 := by omega
          rw [e, List.range'_succ] at hr; exact nomatch hr
        · exact Nat.le_antisymm hi h
      refine wpAny_pure (hQ h' ?_ ⟨oo, eso, epo, ho2, hco, hdo', hko, hpo, hno⟩ hs')
      rw [hin, ← hlen, List.take_length] at hd'; exact hd'
  split
  · refine wpAny_bind (wpAny_dictEntries hoo hdo' (wpAny_bind ?_))
    rw [← Array.forIn_toList]
    refine wpAny_forIn_list _ (fun rest _ t => t = s ∧ ∀ e ∈ rest, ∃ k, knd.is k e.key = true) _ ?_ ?_ _ _ ⟨rfl, fun e he => ?_⟩
    · rintro x rest b t ⟨rfl, hk⟩
      obtain ⟨k, hx⟩ := hk x List.mem_cons_self
      have nr := hnr k x.key hx
      split
      · exact absurd (by assumption) (nr _)
      · exact wpAny_pure ⟨rfl, fun e he => hk e (List.mem_cons_of_mem _ he)⟩
    · rintro b t ⟨rfl, _⟩
      exact tail
    · obtain ⟨k2, hkey2, _⟩ := hko e (by simpa using he)
      exact ⟨k2, hkey2⟩
  · exact tail
end
section
variable {prog : Program} {w : World} {A : Around} {E : Value → Shared → Prop} {s : Shared}
/-- a display of one starred part and one pair, as a tree -/
theorem display_star {x k v : Sem Value} {Q : Value → Shared → Prop}
    (h : wpAny (model prog w) A x (fun m s1 => wpAny (model prog w) A (mergeMapping s.heap.objs.size m false) (fun _ s2 => wpAny (model prog w) A (subDict [(k, v)]) (fun p s3 => wpAny (model prog w) A (mergeMapping s.heap.objs.size (.ref p) false) (fun _ s4 => Q (.ref s.heap.objs.size) s4) (fun _ _ => False) s3) E s2) (fun _ _ => False) s1) E
      { s with heap := s.heap.push { cls := .type "dict", data := .dict #[] } }) : wpAny (model prog w) A (dictDisplay [(none, x), (some k, v)]) Q E s := by
  unfold dictDisplay
  refine wpAny_bind ?_
  rw [List.forIn_cons]
  dsimp only
  rw [if_pos (show ([] : List (Sem Value × Sem Value)).isEmpty = true from rfl)]
  refine wpAny_bind (wpAny_bind (wpAny_pure ?_))
  dsimp only
  refine wpAny_bind (wpAny_alloc ?_)
  refine wpAny_bind (wpAny_holding (wpAny_mono h (fun m s1 h1 => ?_) fun _ _ z => z))
  refine wpAny_bind (wpAny_onRaise (wpAny_tryCatch (wpAny_onRaise (wpAny_holding (wpAny_mono h1 (fun _ s2 h2 => wpAny_pure ?_) fun _ _ z => z.elim)))))
  dsimp only
  rw [List.forIn_cons]
  dsimp only
  rw [if_neg (show ¬ ((([] ++ [(k, v)] : List (Sem Value × Sem Value)).length == 17) = true) from Bool.false_ne_true)]
  refine wpAny_bind (wpAny_pure ?_)
  dsimp only
  rw [List.forIn_nil]
  refine wpAny_pure ?_
  dsimp only
  rw [if_neg (show ¬ ([] ++ [(k, v)] : List (Sem Value × Sem Value)).isEmpty = true from Bool.false_ne_true)]
  refine wpAny_bind (wpAny_bind (wpAny_holding (wpAny_mono h2 (fun p s3 h3 => ?_) fun _ _ z => z)))
  exact wpAny_bind (wpAny_onRaise (wpAny_holding (wpAny_mono h3 (fun _ s4 h4 => wpAny_pure (wpAny_pure h4)) fun _ _ z => z.elim)))
end
end TS
end
/-! G6 -/
set_option linter.all false
set_option maxRecDepth 100000
set_option maxHeartbeats 4000000
noncomputable section
namespace TS
open PySem PySem.Spec PyProof.Rows L2 PySem.Froz Evl

theorem key_noref {P : Program} {w : World} : ∀ k key, (mixKind P w).is k key = true → ∀ a, key ≠ Value.ref a := fun k key h a e => by
  subst e
  rcases keyIs_shape h with ⟨i, t, _, e⟩ | ⟨x, t, _, e⟩ <;> cases e
/-- {**d, k: v} -/
def tDispS (td tk tv : TE) : TE := fun σ H Q => ∀ d, H d = none → td σ (upd H d (.dK [])) fun x H1 => ∃ o kvs, x = .ref o ∧ H1 d = some (.dK []) ∧ Rd H1 o (.dK kvs) ∧ d ≠ o ∧ kvs.length ≤ 1000 ∧
  ∀ p, H1 p = none → tPairs [(tk, tv)] σ (upd (upd H1 d (.dK (mergeK [] kvs))) p (.dK [])) fun ps H2 => ∃ key z, ps = [(kV key, z)] ∧ H2 p = some (.dK []) ∧ H2 d = some (.dK (mergeK [] kvs)) ∧
    Q (.ref d) (upd (upd H2 p (.dK [(key, z)])) d (.dK (putK (mergeK [] kvs) key z)))
theorem pe_dispS {X : Cx} {pos : Pos} {e k v : Expr} {td tk tv : TE} (he : PE X e td) (hk : PE X k tk) (hv : PE X v tv)
    (hs : eval (.Dict [none, some k] [e, v] pos) X.env = (standAt pos >>= fun _ => dictDisplay [(none, eval e X.env >>= fun x => standAt pos >>= fun _ => pure x), (some (eval k X.env), eval v X.env >>= fun x => standAt pos >>= fun _ => pure x)]) := by rfl) :
    PE X (.Dict [none, some k] [e, v] pos) (tDispS td tk tv) := by
  refine ⟨fun pins s σ H Q I h => ?_⟩
  rw [hs]
  refine wpAny_bind (wpAny_standAt (display_star ?_))
  have hn := I.hok.fresh (Nat.le_refl s.heap.objs.size)
  have I1 := I.laid (a := s.heap.objs.size) (o := .dK []) (h' := s.heap.push { cls := .type "dict", data := .dict #[] }) (t' := s.toks) (fun _ _ q => Heap.get?_push_of_some _ q) (Nat.le_refl _) (dk_empty s.heap I.big)
  refine wpAny_bind (thn (he.run pins _ σ _ _ I1 (h _ hn)) fun m s1 ⟨x, H1, I2, r1, o, kvs, ex, hd, ho, hdo, hz, q⟩ => wpAny_bind (wpAny_standAt (wpAny_pure ?_)))
  subst ex
  obtain rfl : m = Value.ref o := r1
  obtain ⟨z0, hs0, vs0, r0, dd0⟩ := dk_of I2.hok hd
  cases r0
  obtain ⟨z1, hs1, vs1, rk1, dd1⟩ := dk_rd I2.hok ho
  have hl1 : vs1.length ≤ 1000 := by rw [← rk1.length]; exact hz
  refine wpAny_mergeMapping (knd := mixKind X.prog X.w) hdo hs1 dd0 dd1 key_noref (fun h1 da _ sb => ?_) (by show 0 + vs1.length ≤ _; exact sz_of (by omega))
  have m1 : (mergeK [] kvs).length ≤ 1000 := by
    have := length_mergeK kvs []
    rw [List.length_nil] at this; omega
  have I3 : Inv X pins σ (upd H1 s.heap.objs.size (.dK (mergeK [] kvs))) { s1 with heap := h1 } :=
    d_write (t' := s1.toks) I2 (by rw [hd]; exact True.intro) sb (let ⟨q, _, _, hq, _⟩ := da; ⟨q, hq⟩) (dk_new (sz_of (by omega)) hs0 (rk1.merge .nil) da)
  have hn3 := I3.hok.fresh (Nat.le_refl h1.objs.size)
  have hn1 : H1 h1.objs.size = none := by
    by_cases e : h1.objs.size = s.heap.objs.size
    · rw [e, upd_same] at hn3; cases hn3
    · rw [upd_ne e] at hn3; exact hn3
  have I4 := I3.laid (a := h1.objs.size) (o := .dK []) (h' := h1.push { cls := .type "dict", data := .dict #[] }) (t' := s1.toks) (fun _ _ q => Heap.get?_push_of_some _ q) (Nat.le_refl _) (dk_empty h1 I3.big)
  refine wpAny_subDict (s := { s1 with heap := h1 }) (knd := mixKind X.prog X.w) (pairs := pairTrees [some k] [v] X.env pos) (show 1 ≤ 15 by decide) ?_
  refine thn ((pps_cons (pos := pos) hk hv pps_nil).run pins _ σ _ _ I4 (q _ hn1)) fun ws s2 ⟨ps, H2, I5, rel, key, z, ep, hp2, hd2, qq⟩ => ?_
  subst ep
  obtain ⟨rs, c, rk⟩ := carries_of (P := X.prog) (w := X.w) (kvs := [(key, z)]) (by simpa using rel)
  obtain ⟨z3, hs3, vs3, r3, dd3⟩ := dk_of I5.hok hp2
  cases r3
  refine ⟨rs, c, dd3, fun h2 db sb2 => ?_⟩
  have hne : h1.objs.size ≠ s.heap.objs.size := fun e => by rw [e, upd_same] at hn3; cases hn3
  have I6 : Inv X pins σ (upd H2 h1.objs.size (.dK (mergeK [] [(key, z)]))) { s2 with heap := h2, toks := s2.toks + ws.length } :=
    d_write (t' := s2.toks + ws.length) I5 (by rw [hp2]; exact True.intro) sb2 (let ⟨q, _, _, hq, _⟩ := db; ⟨q, hq⟩) (dk_new (sz_of (by show 1 ≤ _; decide)) hs3 (rk.merge .nil) db)
  have hd6 : upd H2 h1.objs.size (.dK (mergeK [] [(key, z)])) s.heap.objs.size = some (.dK (mergeK [] kvs)) := by rw [upd_ne (Ne.symm hne)]; exact hd2
  obtain ⟨z5, hs5, vs5, rk5, dd5⟩ := dk_of I6.hok hd6
  obtain ⟨z6, hs6, vs6, rk6, dd6⟩ := dk_of I6.hok (upd_same : upd H2 h1.objs.size (.dK (mergeK [] [(key, z)])) h1.objs.size = _)
  have l5 : vs5.length ≤ 1000 := by rw [← rk5.length]; exact m1
  have l6 : vs6.length = 1 := by rw [← rk6.length]; rfl
  refine wpAny_mergeMapping (knd := mixKind X.prog X.w) (Ne.symm hne) hs6 dd5 dd6 key_noref (fun h3 dc _ sb3 => ?_) (sz_of (by omega))
  refine ⟨.ref s.heap.objs.size, _, d_write (t' := s2.toks + ws.length) I6 (by rw [hd6]; exact True.intro) sb3 (let ⟨q, _, _, hq, _⟩ := dc; ⟨q, hq⟩) (dk_new (kvs := putK (mergeK [] kvs) key z) (sz_of ?_) hs5 (rk6.merge rk5) dc), rfl, qq⟩
  have := length_putK (mergeK [] kvs) key z
  omega
end TS
end
/-! G7 -/
set_option linter.all false
set_option maxRecDepth 100000
set_option maxHeartbeats 4000000
noncomputable section
/-! for c in reversed(text) -/
namespace TS
open PySem PySem.Spec PyProof.Rows L2 PySem.Froz Evl

/-- reversed(x), x a text, the next place i -/
def IsRs (h : Heap) (a : Addr) (x : PySem.Str) (t : Tok) (i : Int) : Prop := ∃ o, h.get? a = some o ∧ o.cls = .type "reversed" ∧ o.data = .fields #[.str x t, rawInt i]
theorem IsRs.at {h h' : Heap} {a : Addr} {x : PySem.Str} {t : Tok} {i : Int} (z : IsRs h a x t i) (e : ∀ o, h.get? a = some o → h'.get? a = some o) : IsRs h' a x t i := let ⟨o, ho, r⟩ := z; ⟨o, e _ ho, r⟩
theorem norev_str : typeLookup (.type "str") "__reversed__" = pure none := by rw [typeLookup_type, builtinLookup_eq_fast]; kernel_rfl
theorem get_str : typeLookup (.type "str") "__getitem__" = pure (some (.builtin "str.__getitem__")) := by rw [typeLookup_type, builtinLookup_eq_fast]; kernel_rfl
theorem sub_str_dict : isSubtype (.type "str") (.type "dict") = pure false := by rw [isSubtype_type]; kernel_rfl
section
variable {prog : Program} {w : World} {A : Around} {E : Value → Shared → Prop} {s : Shared} {x : PySem.Str} {t : Tok}
theorem IsRs.typeIs {a : Addr} {i : Int} (z : IsRs s.heap a x t i) : s.TypeIs (.ref a) "reversed" := let ⟨o, ho, hc, _⟩ := z; ⟨o, ho, hc⟩
theorem code_reversed_str {Q₁ : Value → Shared → Prop} (hz : x.length ≤ 100000)
    (h : Q₁ (.ref s.heap.objs.size) { s with heap := s.heap.push { cls := .type "reversed", data := .fields #[.str x t, rawInt ((x.length : Int) - 1)] }, toks := s.toks + 1 + 1 }) :
    codeAny (model prog w) A (.call (.builtin "reversed.__new__") ⟨[.type "reversed", .str x t], []⟩) (wants Q₁ E) s := by
  have hT : s.TypeIs (.str x t) "str" := typeIs_str s x t
  refine codeAny_of_tree (show wpAny _ A.in1 (checkBuiltinCall "reversed.__new__" ⟨[.type "reversed", .str x t], []⟩ >>= fun _ => again (.builtin "reversed.__new__" ⟨[.type "reversed", .str x t], []⟩)) _ _ s from ?_)
  refine wpAny_bind (wpAny_of_eq (F.newCall_reversed_1 (.str x t)) (wpAny_pure ⟨plainId_quiet F.plain_reversed_new _, codeAny_builtin F.entry_reversed_new ?_⟩))
  rw [Around.under_plainId F.plain_reversed_new _]; unfold Builtin.«reversed.__new__»
  refine wpAny_bind (wpAny_of_eq (newClass_reversed _) (wpAny_bind (wpAny_of_eq (a := ()) (by first | rfl | kernel_rfl) (wpAny_bind (wpAny_of_eq (a := ()) (by first | rfl | kernel_rfl) ?_)))))
  try dsimp only
  refine wpAny_bind (wpAny_specialOf hT norev_str ?_)
  try dsimp only
  refine wpAny_bind ?_
  wp_delta
  refine wpAny_bind (wpAny_isInstance (T := "str") (U := "dict") (b := false) hT sub_str_dict ?_)
  try dsimp only
  try rw [if_neg Bool.false_ne_true]
  try dsimp only
  refine wpAny_bind (wpAny_specialOf hT get_str ?_)
  try dsimp only
  try rw [if_pos (by decide +kernel)]
  refine wpAny_pure ?_
  try dsimp only
  try rw [if_neg (by decide)]
  try dsimp only
  refine wpAny_bind (len_str (by omega) (wpAny_bind (wpAny_of_eq (a := some ((x.length : Nat) : Int)) rfl ?_)))
  try dsimp only
  refine wpAny_bind (show wpAny _ _ (newObj (.type "reversed") (.fields #[.str x t, rawInt ((x.length : Int) - 1)])) _ _ _ from wpAny_newObj_type (wpAny_pure h))
theorem call_reversed_str {Q : Value → Shared → Prop} (hz : x.length ≤ 100000)
    (h : Q (.ref s.heap.objs.size) { s with heap := s.heap.push { cls := .type "reversed", data := .fields #[.str x t, rawInt ((x.length : Int) - 1)] }, toks := s.toks + 1 + 1 }) : wpAny (model prog w) A (call (.type "reversed") [.str x t]) Q E s := by
  refine callType_codes (Q₁ := fun obj t => t.TypeIs obj "reversed" ∧ Q obj t) RT.called_rt (F.typeCall_reversed_1 _) F.entry_object_init (code_reversed_str (A := A.in1) hz ⟨⟨_, Heap.get?_push_size _ rfl, rfl⟩, h⟩) fun obj t ht => ?_
  exact ⟨ht.1, F.args_object_init_2 obj _, object_init_meets RT.called_rt.init.lookup RT.called_rt.made (by decide) prog w A.in1 _ t ⟨ht.1, rfl, ht.2⟩⟩
theorem next_rs_item {it : Addr} {i c : Nat} {Q : Option Value → Shared → Prop} (hit : IsRs s.heap it x t (i : Int)) (hx : x.cps[i]? = some c) (hz : x.length ≤ 100000)
    (hQ : ∀ h' tk u, IsRs h' it x t ((i : Int) - 1) → Heap.SameBut it s.heap h' → Q (some (.str ⟨#[c]⟩ u)) { s with heap := h', toks := tk }) : wpAny (model prog w) A (pyNext (.ref it)) Q E s := by
  obtain ⟨o, ho, hc, hd⟩ := id hit
  have hi : i < x.cps.size := (Array.getElem?_eq_some_iff.mp hx).1
  have hi2 : i < x.length := hi
  unfold pyNext
  refine wpAny_bind (wpAny_attempt (wpAny_callSpecial?_slot (name := Str.ofString "__next__") hit.typeIs RT.slot_rt_next (wpAny_call_entry RT.slot_rt_next hit.typeIs RT.entry_rt_next ?_ (RT.args_rt_next _))))
  unfold Builtin.«reversed.__next__»
  refine wpAny_bind (wpAny_of_eq (a := (Value.ref it, [])) rfl (wpAny_bind (wpAny_field ho hd (x := .str x t) rfl (wpAny_bind (wpAny_field ho hd (x := rawInt (i : Int)) rfl ?_)))))
  show wpAny _ _ (if (i : Int) < 0 then _ else _) _ _ s
  rw [if_neg (by omega)]
  refine wpAny_bind (wpAny_specialOf (typeIs_str s x t) get_str ?_)
  try dsimp only
  try rw [if_neg (by decide)]
  try dsimp only
  refine wpAny_bind (wpAny_mkInt (wpAny_bind (wpAny_attempt ?_)))
  have fin : seqIndex? (i : Int) x.length = some i := seqIndex_of (by omega) (by omega)
  refine PyProof.Rows.getItem_str (s := { s with toks := s.toks + 1 }) (c := c) ?_ (by rw [fin]; exact hx) ?_
  · have e1 : decide ((i : Int) < -(2 ^ 63 : Int)) = false := decide_eq_false (by omega)
    have e2 : decide ((i : Int) ≥ 2 ^ 63) = false := decide_eq_false (by omega)
    rw [e1, e2, Bool.or_false]
  try dsimp only
  refine wpAny_bind (wpAny_field (s := { s with toks := s.toks + 1 + 1 }) ho hd (x := rawInt (i : Int)) rfl ?_)
  try dsimp only
  refine wpAny_bind (wpAny_setField (s := { s with toks := s.toks + 1 + 1 }) ho hd (by simp) ?_)
  first
  | refine wpAny_pure ⟨_, rfl, wpAny_pure (hQ _ _ _ ?_ (Heap.SameBut.update ..))⟩
  | refine wpAny_bind (wpAny_pure (wpAny_pure ⟨_, rfl, wpAny_pure (hQ _ _ _ ?_ (Heap.SameBut.update ..))⟩))
  exact ⟨_, Heap.get?_update_self _ ho (Obj.isFreed_of_fields (Obj.data_mapFields hd _)), (Obj.cls_mapFields ..).trans hc, by rw [Obj.data_mapFields hd]; simp⟩
theorem next_rs_end {it : Addr} {Q : Option Value → Shared → Prop} (hh : A.handled = none) (hit : IsRs s.heap it x t (-1))
    (hQ : ∀ h', Heap.ExtBut it s.heap h' → Q none { s with heap := h' }) : wpAny (model prog w) A (pyNext (.ref it)) Q E s := by
  obtain ⟨o, ho, hc, hd⟩ := id hit
  unfold pyNext
  refine wpAny_bind (wpAny_attempt (wpAny_callSpecial?_slot (name := Str.ofString "__next__") hit.typeIs RT.slot_rt_next (wpAny_call_entry RT.slot_rt_next hit.typeIs RT.entry_rt_next ?_ (RT.args_rt_next _))))
  unfold Builtin.«reversed.__next__»
  refine wpAny_bind (wpAny_of_eq (a := (Value.ref it, [])) rfl (wpAny_bind (wpAny_field ho hd (x := .str x t) rfl (wpAny_bind (wpAny_field ho hd (x := rawInt (-1)) rfl ?_)))))
  show wpAny _ _ (if (-1 : Int) < 0 then _ else _) _ _ s
  rw [if_pos (by decide)]
  refine wpAny_bind (wpAny_rule (wpAny_bind ?_))
  wp_delta
  refine wpAny_bind (wpAny_setField ho hd (by simp) ?_)
  have ho2 := Heap.get?_update_self (Obj.mapFields (·.setIfInBounds 1 (rawInt (-1)))) ho (Obj.isFreed_of_fields (Obj.data_mapFields hd _))
  refine wpAny_setField (s := { s with heap := _ }) ho2 (Obj.data_mapFields hd _) (by simp) ?_
  try dsimp only
  first
  | show wpAny _ _ (newExc (.type "StopIteration") [] >>= _) _ _ _
  | (refine wpAny_bind ?_; show wpAny _ _ (newExc (.type "StopIteration") [] >>= _) _ _ _)
  | (refine wpAny_bind ?_; wp_delta; show wpAny _ _ (newExc (.type "StopIteration") [] >>= _) _ _ _)
  refine wpAny_bind ?_
  simp only [newExc, newTuple]
  refine wpAny_bind (wpAny_newObj_type (wpAny_bind (m := firstArgMember _ _) (wpAny_of_eq (a := Value.none) (by first | rfl | (simp only [firstArgMember]; rfl)) (wpAny_newObj_type ?_ (by size_fits)))) (by size_fits))
  simp only [raiseNew]
  refine wpAny_bind (wpAny_handled ?_)
  first | rw [show A.in1.handled = none from hh] | rw [hh]
  refine wpAny_bind (wpAny_pure (wpAny_throw ?_))
  refine wpAny_bind (wpAny_isInstance (T := "StopIteration") (b := true) (show _ from ⟨_, Heap.get?_push_size _ rfl, rfl⟩) isSubtype_stop (wpAny_pure (hQ _ ?_)))
  refine ((?_ : Heap.ExtBut it s.heap _).push _).push _
  exact fun b ob hb e => (Heap.get?_update_other _ _ (Ne.symm hb)).trans ((Heap.get?_update_other _ _ (Ne.symm hb)).trans e)
theorem iter_rs {it : Addr} {i : Int} {Q : Value → Shared → Prop} (hit : IsRs s.heap it x t i) (h : Q (.ref it) s) : wpAny (model prog w) A (pyIter (.ref it)) Q E s := by
  refine wpAny_pyIter_slot hit.typeIs RT.slot_rt_iter (wpAny_call_entry RT.slot_rt_iter hit.typeIs RT.entry_rt_iter (show wpAny _ _ (ret (.ref it)) _ _ s from ?_) (RT.args_rt_iter _))
  exact wpAny_pure ⟨_, rfl, "reversed", _, hit.typeIs, RT.slot_rt_next.lookup, h⟩
end
/-- the signs of x from its end -/
def Itsr (x : PySem.Str) : It := ⟨fun i _ => i < x.cps.size, fun i H v H' => H' = H ∧ ∃ c, x.cps[x.cps.size - 1 - i]? = some c ∧ v = .str ⟨#[c]⟩, fun i _ => x.cps.size ≤ i⟩
theorem turn_rs {P : Program} {w : World} {K : PySem.W.Frag} {tg : Expr} (it : Addr) (x : PySem.Str) (t : Tok) (hz : x.length ≤ 100000) : Turn P w K tg (Itsr x) [it] it (fun i h => i ≤ x.cps.size ∧ IsRs h it x t ((x.cps.size : Int) - 1 - (i : Nat))) where
  mem := by simp
  obj := fun i h st b hb => by
    obtain rfl : b = it := by simpa using hb
    obtain ⟨_, o, e, c, d⟩ := st
    exact ⟨o, e, fun v z => by rw [d] at z; cases z⟩
  keep := fun i h h' st k => ⟨st.1, st.2.at fun o => k it (by simp) o⟩
  item := by
    intro X hP hw hK hc i pins s σ H E I hf st hg
    subst hP hw hK
    have hg : i < x.cps.size := hg
    obtain ⟨f0, f1, f2, f3, f4, f5⟩ := hf it (by simp)
    obtain ⟨_, hit⟩ := st
    have e1 : (x.cps.size : Int) - 1 - ((i : Nat) : Int) = ((x.cps.size - 1 - i : Nat) : Int) := by omega
    rw [e1] at hit
    obtain ⟨c, hx⟩ : ∃ c, x.cps[x.cps.size - 1 - i]? = some c := ⟨_, Array.getElem?_eq_getElem (by omega)⟩
    refine next_rs_item hit hx hz fun h' tk u st' sb => ?_
    have e2 : ((x.cps.size - 1 - i : Nat) : Int) - 1 = (x.cps.size : Int) - 1 - ((i + 1 : Nat) : Int) := by omega
    rw [e2] at st'
    have I1 : Inv X pins σ H { s with heap := h', toks := tk } := I.turned (t' := tk) (fun b o hb e => (sb.2 b hb).trans e) f0 f1 f3 f4 f5
    obtain ⟨o, e, cc, d⟩ := id st'
    exact ⟨_, rfl, go_of (s := { s with heap := h', toks := tk }) e cc d (by decide) ⟨.str ⟨#[c]⟩, H, I1, ⟨u, rfl⟩, ⟨rfl, c, hx, rfl⟩, ⟨hg, st'⟩, fun b hb => (hf b hb).1⟩⟩
  done := by
    intro X hP hw hK hc i pins s σ H E I hf st hg
    subst hP hw hK
    have hg : x.cps.size ≤ i := hg
    obtain ⟨f0, f1, f2, f3, f4, f5⟩ := hf it (by simp)
    obtain ⟨hin, hit⟩ := st
    have e1 : (x.cps.size : Int) - 1 - ((i : Nat) : Int) = -1 := by omega
    rw [e1] at hit
    exact next_rs_end (I.ok.hd hc) hit fun h' eb => ⟨rfl, I.turned (t' := s.toks) (fun b o hb e => eb b o hb e) f0 f1 f3 f4 f5⟩
  self := fun A i s Q E st h => iter_rs st.2 h
def iRevS (te : TE) : TI := fun σ H R => te σ H fun v H1 => ∃ x : PySem.Str, v = .str x ∧ x.length ≤ 100000 ∧ R (Itsr x) H1
theorem pi_revS {X : Cx} {tg e : Expr} {te : TE} {p pos : Pos} (hg : Gl X "reversed") (hm : X.mg "reversed" = none) (he : PE X e te) (hs : starEach [e] X.env = (false, eval e X.env) :: starEach [] X.env := by rfl) : PI X tg (.Call (.Name "reversed" p) [e] [] pos) (iRevS te) := by
  refine ⟨fun pins s σ H R I h => ?_⟩
  refine Call_ (ld_blt I hg hm PyProof.Rows.boot_reversed (PyProof.Rows.callWith_type1 (PyProof.Rows.args_cons (thn (he.run pins s σ H _ I h) fun u s1 ⟨v, H1, I1, r1, x, ev, hz, q⟩ => PyProof.Rows.args_nil ?_) hs) hs rfl))
  subst ev
  obtain ⟨t, rfl⟩ := r1
  refine call_reversed_str hz (iter_rs (x := x) (t := t) (i := (x.length : Int) - 1) ⟨_, Heap.get?_push_size _ rfl, rfl, rfl⟩ ?_)
  refine pi_one (tk := s1.toks + 1 + 1) I1 _ (turn_rs _ x t hz) ⟨Nat.zero_le _, ?_⟩ q
  have e1 : (x.cps.size : Int) - 1 - ((0 : Nat) : Int) = (x.length : Int) - 1 := by show (x.cps.size : Int) - 1 - 0 = (x.cps.size : Int) - 1; omega
  rw [e1]
  exact ⟨_, Heap.get?_push_size _ rfl, rfl, rfl⟩
theorem goes_rs {x : PySem.Str} {Hc : Hp → Prop} : Goes (Itsr x) Hc (signsV x).reverse where
  go := fun i y H hx _ => by have := (List.getElem?_eq_some_iff.mp hx).1; rw [List.length_reverse, signsV_len] at this; exact this
  stop := fun i H hi _ => by rw [List.length_reverse, signsV_len] at hi; exact hi
  yld := fun i y H z H' hx _ hy => by
    obtain ⟨e, c, hc, rfl⟩ := hy
    have hi := (List.getElem?_eq_some_iff.mp hx).1
    rw [List.length_reverse] at hi
    rw [List.getElem?_reverse hi, signsV_len, signsV_at hc] at hx
    exact ⟨e, Option.some.inj hx⟩
theorem ei_revS {σ : L2.St} {H : Hp} {te : TE} {x : PySem.Str} (h : Ev te σ H (.str x)) (hz : x.length ≤ 100000) : EvI (iRevS te) σ H (signsV x).reverse := fun H1 e R q => h H1 e _ fun H2 e2 => ⟨x, rfl, hz, q _ H2 H e2 (Ex.refl H) (e.trans e2) (fun _ n _ => n) goes_rs⟩
end TS
end
/-! G8 -/
set_option linter.all false
set_option maxRecDepth 100000
set_option maxHeartbeats 4000000
noncomputable section
/-! [*xs, *text] and more readings -/
namespace TS
open PySem PySem.Spec PyProof.Rows L2 PySem.Froz Evl

theorem vals_pt : ∀ {xs : List V} {us : List Value}, xs.length = us.length → (∀ (j : Nat) x u, xs[j]? = some x → us[j]? = some u → RelV x u) → Vals xs us
  | [], [], _, _ => .nil
  | x :: xs, u :: us, hl, h => .cons (h 0 x u rfl rfl) (vals_pt (Nat.succ.inj hl) fun j y v h1 h2 => h (j + 1) y v h1 h2)
  | [], _ :: _, hl, _ => nomatch hl
  | _ :: _, [], hl, _ => nomatch hl
theorem slot_str_iter_some : typeLookup (.type "str") "__iter__" = pure (some (.builtin "str.__iter__")) := by rw [typeLookup_type, builtinLookup_eq_fast]; kernel_rfl
def tStarS (te : TE) (t : TA) : TA := fun σ H Q => te σ H fun x H1 => ∃ z : PySem.Str, x = .str z ∧ z.length ≤ 100000 ∧ t σ H1 fun ys H2 => Q (signsV z ++ ys) H2
theorem pa_starS {X : Cx} {e : Expr} {es : List Expr} {te : TE} {t : TA} {p : Pos} (hc : X.calm = true) (he : PE X e te) (hr : PA X es t) (hs : starEach (.Starred e p :: es) X.env = (true, eval e X.env) :: starEach es X.env := by rfl) : PA X (.Starred e p :: es) (tStarS te t) := by
  refine ⟨fun pos pins s σ H Q I h => PySem.W.items_star (thn (he.run pins s σ H _ I h) fun v s1 ⟨x, H1, I1, r1, z, ex, hz, q⟩ => ?_) hs⟩
  subst ex
  obtain ⟨tk, rfl⟩ := r1
  unfold PySem.W.StarOf notIterableAtAll
  refine wpAny_bind (wpAny_specialOf (typeIs_str s1 z tk) slot_str_iter_some (wpAny_pure ⟨rfl, ?_⟩))
  refine wpAny_collect_str (I1.ok.hd hc) z tk (fun s2 acc k g d o ⟨ha, hi⟩ => ?_) (sz_of hz)
  have es : s2 = { s1 with heap := s2.heap, toks := s2.toks } := by
    obtain ⟨a1, a2, a3, a4, a5⟩ := s2
    obtain ⟨b1, b2, b3, b4, b5⟩ := s1
    cases g; cases d; cases o
    rfl
  have I2 : Inv X pins σ H1 s2 := by rw [es]; exact I1.kept (t' := s2.toks) k
  have rv : Vals (signsV z) acc.toList := vals_pt (by rw [signsV_len, Array.length_toList, ha]) fun j x u h1 h2 => by
    obtain ⟨c, tk, hc, rfl⟩ := hi j u (by rw [← Array.getElem?_toList]; exact h2)
    rw [signsV_at hc] at h1
    obtain rfl := Option.some.inj h1
    exact ⟨tk, rfl⟩
  exact thn (hr.run pos pins s2 σ H1 _ I2 q) fun ws s3 ⟨vs, H3, I3, r3, q3⟩ => ⟨signsV z ++ vs, H3, I3, rv.append r3, q3⟩
section
variable {K : PySem.W.Frag} {σ : L2.St} {H : Hp} {te : TE} {t : TA} {xs ys : List V}
theorem ea_star {a : Addr} (h : Ev te σ H (.ref a)) (hs : SqT K H a xs ∨ SqL K H a xs) (hr : EvA t σ H ys) : EvA (StX.tStar K te t) σ H (xs ++ ys) := fun H1 e Q q => h H1 e _ fun H2 e2 =>
  ⟨a, xs, rfl, hs.elim (fun z => .inl (ex_t (e.trans e2) z)) (fun z => .inr (ex_l (e.trans e2) z)), hr H2 (e.trans e2) _ fun H3 e3 => q H3 (e2.trans e3)⟩
theorem ea_starS {z : PySem.Str} (h : Ev te σ H (.str z)) (hz : z.length ≤ 100000) (hr : EvA t σ H ys) : EvA (tStarS te t) σ H (signsV z ++ ys) := fun H1 e Q q => h H1 e _ fun H2 e2 =>
  ⟨z, rfl, hz, hr H2 (e.trans e2) _ fun H3 e3 => q H3 (e2.trans e3)⟩
end
end TS
end
/-! G9 -/
set_option linter.all false
set_option maxRecDepth 100000
set_option maxHeartbeats 4000000
noncomputable section
/-! a generator that sleeps and is woken once more: its frame stands on the heap as it is then -/
namespace TS
open PySem PySem.Spec PyProof.Rows L2 PySem.Froz Evl GenW

/-- the heap below n -/
def cutH (h : Heap) (n : Nat) : Heap := ⟨h.objs.extract 0 n, h.life⟩
theorem cut_size {h : Heap} {n : Nat} (hn : n ≤ h.objs.size) : (cutH h n).objs.size = n := by
  show (h.objs.extract 0 n).size = n
  rw [Array.size_extract]; omega
theorem cut_get {h : Heap} {n b : Nat} (hb : b < n) : (cutH h n).get? b = h.get? b := by
  have e : (h.objs.extract 0 n)[b]? = h.objs[b]? := by
    rw [Array.getElem?_extract]
    by_cases q : b < min n h.objs.size
    · rw [if_pos (by omega)]; simp
    · rw [if_neg (by omega)]
      have : h.objs.size ≤ b := by omega
      simp [this]
  unfold Heap.get?
  show (match (h.objs.extract 0 n)[b]? with | some ⟨_, _, .freed, _⟩ => none | o => o) = _
  rw [e]
  rcases h.objs[b]? with _ | ⟨c, d, dt, sl⟩ <;> first | rfl | (cases dt <;> rfl)
theorem cut_lt {h : Heap} {n b : Nat} {o : Obj} (e : (cutH h n).get? b = some o) : b < n := by
  have z : (cutH h n).objs.size ≤ n := by
    show (h.objs.extract 0 n).size ≤ n
    rw [Array.size_extract]; omega
  exact Nat.lt_of_lt_of_le (Heap.lt_size e) z
section
variable {P : Program} {w : World} {K : PySem.W.Frag} {mg : PySem.Str → Option Value} {base : Heap} {N : List PySem.Str} {qual : PySem.Str} {scope : Scope} {f : Addr} {cd : Value} {A : Around} {outer : List Env} {s s1 s2 : Shared} {H H1 H2 : Hp} {E : XK} {σ : L2.St}
theorem frames_cut {h₀ h : Heap} {n : Nat} (h0 : ∀ b o, h₀.get? b = some o → b < n) : ∀ {l : List Env}, h₀.FunFrames base l → h.FunFrames base l → (cutH h n).FunFrames base l
  | [], _, _ => trivial
  | env :: rest, ⟨_, ⟨L, _, e1, _, e3, _⟩, r1⟩, ⟨k, ⟨L2, o2, g1, g2, g3, g4⟩, r2⟩ => by
    have : L2 = L := by rw [e1] at g1; exact (Option.some.inj g1).symm
    subst this
    exact ⟨k, ⟨L2, o2, g1, g2, by rw [cut_get (h0 _ _ e3)]; exact g3, g4⟩, frames_cut h0 r1 r2⟩
/-- the generator's view, at a later state -/
theorem rebase (I : Inv (gcxOf P w K mg base N qual scope f cd A outer s H E []) [] σ H1 s1) (e0 : Env0 P w K mg base A outer s2 H2)
    (keep : ∀ b o, s.heap.objs.size ≤ b → H1 b = none → s1.heap.get? b = some o → (b = (envOfC qual scope s.heap.objs.size f cd).locals ∨ ∃ x, (envOfC qual scope s.heap.objs.size f cd).cells.lookup x = some b) → s2.heap.get? b = some o)
    (free : H2 (envOfC qual scope s.heap.objs.size f cd).locals = none) (freeC : ∀ x c, (envOfC qual scope s.heap.objs.size f cd).cells.lookup x = some c → H2 c = none) :
    ∃ s' : Shared, s'.heap.objs.size = s.heap.objs.size ∧ s'.os = s2.os ∧ (∀ b, b < s.heap.objs.size → s'.heap.get? b = s2.heap.get? b) ∧ Inv (gcxOf P w K mg base N qual scope f cd A outer s' H2 E []) [] σ H2 s2 := by
  have ok := I.ok
  have habove : s.heap.objs.size ≤ (envOfC qual scope s.heap.objs.size f cd).locals := ok.above
  have hcab : ∀ x c, (envOfC qual scope s.heap.objs.size f cd).cells.lookup x = some c → s.heap.objs.size ≤ c := fun x c e => by
    have z := I.freeC x c e
    by_cases h : s.heap.objs.size ≤ c
    · exact h
    · exact ok.cab x c rfl e
  obtain ⟨m, hns, hlook⟩ := I.loc
  obtain ⟨oL, es, ep, hoL, hrest⟩ := id hns
  have hL2 : s2.heap.get? (envOfC qual scope s.heap.objs.size f cd).locals = some oL := keep _ _ habove I.free hoL (.inl rfl)
  have hn : s.heap.objs.size ≤ s2.heap.objs.size := Nat.le_trans habove (Nat.le_of_lt (Heap.lt_size hL2))
  have hcell : ∀ {x c v}, (envOfC qual scope s.heap.objs.size f cd).cells.lookup x = some c → s1.heap.IsCell c v → s2.heap.IsCell c v := fun {x c v} e ⟨o, ho, hd⟩ => ⟨o, keep _ _ (hcab x c e) (I.freeC x c e) ho (.inr ⟨x, e⟩), hd⟩
  have old : ∀ b o, s.heap.get? b = some o → b < s.heap.objs.size := fun b o e => Heap.lt_size e
  have key : ∀ s' : Shared, s'.heap = cutH s2.heap s.heap.objs.size → s'.os = s2.os → s'.heap.objs.size = s.heap.objs.size → Inv (gcxOf P w K mg base N qual scope f cd A outer s' H2 E []) [] σ H2 s2 := by
    intro s' hh ho hz
    have gh : ∀ b o, s'.heap.get? b = some o → b < s.heap.objs.size ∧ s2.heap.get? b = some o := fun b o e => by
      rw [hh] at e
      have hb := cut_lt e
      exact ⟨hb, by rw [← cut_get hb]; exact e⟩
    have ee : envOfC qual scope s'.heap.objs.size f cd = envOfC qual scope s.heap.objs.size f cd := by rw [hz]
    refine ⟨⟨ok.mod, ok.kind, ok.glob, ok.blt, ?_, ?_, ?_, ?_, fun _ => ?_, ?_, .inr ⟨rfl, rfl⟩, fun b hb => ?_, fun b o e => ?_, ?_, fun b o e hb => ?_, fun b hb => ?_, ?_, fun b hb => ?_⟩, ho.symm, e0.bare, ⟨fun b o e _ _ _ => (gh b o e).2, fun b o e _ _ _ => ⟨o.slots, (gh b o e).2⟩, fun b o e n _ => ?_, fun b o e _ => ⟨o, (gh b o e).2⟩, fun b o xs => ?_, fun b o v u => ?_, fun b ps e => ?_⟩, ?_, ?_, ?_, ?_, fun p hp => ?_, e0.hok, I.len⟩
    · show s'.heap.objs.size ≤ (envOfC qual scope s'.heap.objs.size f cd).locals
      rw [hz]; exact habove
    · show ∀ x y c, (envOfC qual scope s'.heap.objs.size f cd).cells.lookup x = some c → (envOfC qual scope s'.heap.objs.size f cd).cells.lookup y = some c → x = y
      rw [hz]; exact ok.inj
    · show ∀ x, ((envOfC qual scope s'.heap.objs.size f cd).kindOf x = some .cell ∨ (envOfC qual scope s'.heap.objs.size f cd).kindOf x = some .free) → ∃ c, (envOfC qual scope s'.heap.objs.size f cd).cells.lookup x = some c
      rw [hz]; exact ok.has
    · show ∀ x c, _ → (envOfC qual scope s'.heap.objs.size f cd).cells.lookup x = some c → s'.heap.objs.size ≤ c
      rw [hz]; exact fun x c _ e => hcab x c e
    · show (A.deeper (envOfC qual scope s'.heap.objs.size f cd)).handled = none
      rw [hz]; exact ok.hd rfl
    · show (A.deeper (envOfC qual scope s'.heap.objs.size f cd)).frames = some (envOfC qual scope s'.heap.objs.size f cd :: outer)
      rw [hz]; exact ok.frames
    · have hb : b ∈ ([] : List Addr) := hb
      cases hb
    · obtain ⟨g1, g2⟩ := e0.bs b o e
      have hb : b < s.heap.objs.size := old b o (ok.bs b o e).1
      refine ⟨?_, ?_⟩
      · show s'.heap.get? b = some o
        rw [hh, cut_get hb]; exact g1
      · exact g2
    · show base.objs.size ≤ s'.heap.objs.size
      rw [hz]; exact ok.bsz
    · have hb : b ∈ ([] : List Addr) := hb
      cases hb
    · have hb : b ∈ ([] : List Addr) := hb
      cases hb
    · show s'.heap.FunFrames base outer
      rw [hh]
      exact frames_cut old ok.funs e0.funs
    · exact e0.frf b hb
    · exact n
    · exact xs
    · exact u
    · exact ⟨#[], by rw [show H2 b = _ from e]; simp⟩
    · show ∃ m, s2.heap.Ns (envOfC qual scope s'.heap.objs.size f cd).locals m ∧ ∀ (i : Nat) (x : PySem.Str) (v : V), N[i]? = some x → σ[i]? = some (some v) → Vis scope x → ∃ u, RelV v u ∧ Look (envOfC qual scope s'.heap.objs.size f cd) s2.heap m x u
      rw [hz]
      refine ⟨m, ⟨oL, es, ep, hL2, hrest⟩, fun i x v h1 h2 h3 => ?_⟩
      obtain ⟨u, ru, lk⟩ := hlook i x v h1 h2 h3
      refine ⟨u, ru, ?_⟩
      rcases lk with l | ⟨kd, c, hc, hcl⟩
      · exact .inl l
      · exact .inr ⟨kd, c, hc, hcell hc hcl⟩
    · show ∀ x c, (envOfC qual scope s'.heap.objs.size f cd).cells.lookup x = some c → ∃ v, s2.heap.IsCell c v
      rw [hz]
      intro x c e
      obtain ⟨v, hv⟩ := I.cell x c e
      exact ⟨v, hcell e hv⟩
    · show H2 (envOfC qual scope s'.heap.objs.size f cd).locals = none
      rw [hz]; exact free
    · show ∀ x c, (envOfC qual scope s'.heap.objs.size f cd).cells.lookup x = some c → H2 c = none
      rw [hz]; exact freeC
    · have hp : p ∈ ([] : List (Addr × Obj)) := hp
      cases hp
  exact ⟨{ s2 with heap := cutH s2.heap s.heap.objs.size }, cut_size hn, rfl, fun b hb => cut_get hb, key _ rfl rfl (cut_size hn)⟩
end
end TS
end
/-! G10 -/
set_option linter.all false
set_option maxRecDepth 100000
set_option maxHeartbeats 4000000
noncomputable section
/-! statements that touch no generator -/
namespace TS
open PySem PySem.Spec PyProof.Rows L2 PySem.Froz Evl GenW

/-- from s to s': no generator has moved; what is not tracked in H stays, but for the frame's own names -/
structure Qt (X : Cx) (H : Hp) (s : Shared) (H' : Hp) (s' : Shared) : Prop where
  gens : s'.gens = s.gens
  dark : ∀ b, H b = none → H' b = none
  keep : ∀ b o, H b = none → b ≠ X.env.locals → s.heap.get? b = some o → s'.heap.get? b = some o
section
variable {X : Cx} {H H1 H2 : Hp} {s s1 s2 : Shared}
theorem Qt.rfl' : Qt X H s H s := ⟨rfl, fun _ z => z, fun _ _ _ _ z => z⟩
theorem Qt.tok {t : Nat} : Qt X H s H { s with toks := t } := ⟨rfl, fun _ z => z, fun _ _ _ _ z => z⟩
theorem Qt.trans (a : Qt X H s H1 s1) (b : Qt X H1 s1 H2 s2) : Qt X H s H2 s2 :=
  ⟨b.gens.trans a.gens, fun _ z => b.dark _ (a.dark _ z), fun c o n l e => b.keep c o (a.dark c n) l (a.keep c o n l e)⟩
end
/-- the end of an expression -/
def QEP (X : Cx) (pins : List (Addr × Obj)) (σ : L2.St) (H : Hp) (s : Shared) (Q : VK) (u : Value) (s' : Shared) : Prop := ∃ v H', Inv X pins σ H' s' ∧ Qt X H s H' s' ∧ RelV v u ∧ Q v H'
structure QE (X : Cx) (e : Expr) (t : TE) : Prop where
  run : ∀ (pins : List (Addr × Obj)) (s : Shared) (σ : L2.St) (H : Hp) (Q : VK), Inv X pins σ H s → t σ H Q → wpAny (model X.prog X.w) X.A (eval e X.env) (QEP X pins σ H s Q) X.xe s
structure QT (X : Cx) (e : Expr) (t : TT) : Prop where
  run : ∀ (pins : List (Addr × Obj)) (s : Shared) (σ : L2.St) (H : Hp) (Q : Bool → Hp → Prop), Inv X pins σ H s → t σ H Q → wpAny (model X.prog X.w) X.A (isTrue e X.env (eval e X.env)) (fun b s' => ∃ H', Inv X pins σ H' s' ∧ Qt X H s H' s' ∧ Q b H') X.xe s
structure QG (X : Cx) (e : Expr) (t : TG) : Prop where
  run : ∀ (pins : List (Addr × Obj)) (s : Shared) (σ : L2.St) (H : Hp) (v : V) (u : Value) (Q : L2.St → Hp → Prop), Inv X pins σ H s → RelV v u → t v σ H Q →
    wpAny (model X.prog X.w) X.A (assign e X.env u) (fun _ s' => ∃ σ' H', Inv X pins σ' H' s' ∧ Qt X H s H' s' ∧ Q σ' H') X.xe s
def QSP (X : Cx) (pins : List (Addr × Obj)) (H : Hp) (s : Shared) (D : Ends) (f : Flow) (s' : Shared) : Prop :=
  match f with
  | .next => ∃ σ' H', Inv X pins σ' H' s' ∧ Qt X H s H' s' ∧ D.nx σ' H'
  | .brk => ∃ σ' H', Inv X pins σ' H' s' ∧ Qt X H s H' s' ∧ D.bk σ' H'
  | .cont => ∃ σ' H', Inv X pins σ' H' s' ∧ Qt X H s H' s' ∧ D.ct σ' H'
  | .ret u => ∃ v σ' H', Inv X pins σ' H' s' ∧ Qt X H s H' s' ∧ RelV v u ∧ D.rt v H'
structure QS (X : Cx) (st : Stmt) (t : TS) : Prop where
  run : ∀ (pins : List (Addr × Obj)) (s : Shared) (σ : L2.St) (H : Hp) (D : Ends), Inv X pins σ H s → t D σ H → wpAny (model X.prog X.w) X.A (exec st X.env) (QSP X pins H s D) X.xe s
structure QSs (X : Cx) (st : List Stmt) (t : TS) : Prop where
  run : ∀ (pins : List (Addr × Obj)) (s : Shared) (σ : L2.St) (H : Hp) (D : Ends), Inv X pins σ H s → t D σ H → wpAny (model X.prog X.w) X.A (execs st X.env) (QSP X pins H s D) X.xe s
theorem QSP.after {X : Cx} {pins : List (Addr × Obj)} {H H1 : Hp} {s s1 : Shared} {D : Ends} {f : Flow} {s' : Shared} (a : Qt X H s H1 s1) (h : QSP X pins H1 s1 D f s') : QSP X pins H s D f s' := by
  cases f with
  | next => obtain ⟨σ', H', I, q, z⟩ := h; exact ⟨σ', H', I, a.trans q, z⟩
  | brk => obtain ⟨σ', H', I, q, z⟩ := h; exact ⟨σ', H', I, a.trans q, z⟩
  | cont => obtain ⟨σ', H', I, q, z⟩ := h; exact ⟨σ', H', I, a.trans q, z⟩
  | ret u => obtain ⟨v, σ', H', I, q, z⟩ := h; exact ⟨v, σ', H', I, a.trans q, z⟩
section
variable {X : Cx} {st : Stmt} {rest : List Stmt} {t u : TS} {e : Expr} {te : TE} {pos p apos : Pos}
theorem qss_nil : QSs X [] tNext := ⟨fun _ _ σ H _ I h => wpAny_execs_nil ⟨σ, H, I, .rfl', h⟩⟩
theorem qss_cons (a : QS X st t) (b : QSs X rest u) : QSs X (st :: rest) (tSeq t u) := by
  refine ⟨fun pins s σ H D I h => ?_⟩
  refine wpAny_execs_cons (thn (a.run pins s σ H { D with nx := u D } I h) fun f s1 q => ?_)
  cases f with
  | next =>
    obtain ⟨σ', H', I', z, q⟩ := q
    exact thn (b.run pins s1 σ' H' D I' q) fun f s2 q2 => q2.after z
  | ret v => exact q
  | brk => exact q
  | cont => exact q
theorem qs_break : QS X (.Break pos) tBreak := ⟨fun _ _ σ H _ I h => wpAny_Break ⟨σ, H, I, .rfl', h⟩⟩
theorem qs_expr (he : QE X e te) (hs : swapsWith e none pos.line X.env = pure false := by rfl) : QS X (.Expr e pos) (tDrop te) := by
  refine ⟨fun pins s σ H D I h => ?_⟩
  exact wpAny_Expr_any (thn (he.run pins s σ H _ I h) fun v s1 ⟨x, H1, I1, z, _, q1⟩ => ⟨σ, H1, I1, z, q1⟩) I.quiet hs
theorem qs_if {c : Expr} {a b : List Stmt} {tc : TT} (hc : QT X c tc) (ha : QSs X a t) (hb : QSs X b u) : QS X (.If c a b pos) (tIfS tc t u) := by
  refine ⟨fun pins s σ H D I h => ?_⟩
  refine wpAny_If (thn (hc.run pins s σ H _ I h) fun d s1 ⟨H1, I1, z, q1⟩ => ?_)
  cases d with
  | true => exact thn (ha.run pins s1 σ H1 D I1 q1) fun f s2 q2 => q2.after z
  | false => exact thn (hb.run pins s1 σ H1 D I1 q1) fun f s2 q2 => q2.after z
/-- a name of the frame -/
theorem qe_var {i : Nat} {x : PySem.Str} (hN : X.N[i]? = some x) (hk : X.env.kindOf x = some .local) (hv : Vis X.env.scope x) (hd : (x == ("__debug__" : PySem.Str)) = false := by decide) : QE X (.Name x pos) (tVar i) := by
  refine ⟨fun pins s σ H Q I ⟨v, e, h⟩ => ?_⟩
  obtain ⟨m, hn, hl⟩ := I.loc
  obtain ⟨u, r, l⟩ := hl i x v hN e hv
  rcases l with l | l
  · exact wpAny_Name (wpAny_loadName_local I.ok.kind hk hn l.2 ⟨v, H, I, .rfl', r, h⟩) hd
  · rw [hk] at l
    exact (l.1.elim (fun z => by cases z) fun z => by cases z)
/-- v goes into a name of the frame -/
theorem qg_name {i : Nat} {x : PySem.Str} (hN : X.N.Nodup) (hi : X.N[i]? = some x) (hk : X.env.scope.names.lookup x = some .local) : QG X (.Name x pos) (gName i) := by
  refine ⟨fun pins s σ H v u Q I r h => ?_⟩
  have hkind : (X.env.scope.kind == .class || (X.env.scope.kind == .module && X.env.locals != X.env.globals)) = false := by rw [I.ok.kind]; rfl
  obtain ⟨m, hm, hlook⟩ := id I.loc
  have size : i < σ.length := I.len ▸ (List.getElem?_eq_some_iff.mp hi).1
  refine wpAny_assign_Name (wpAny_storeName_local hk hm (fun h' hm' sb => ?_) hkind)
  have far : ∀ b o, X.s_0.heap.get? b = some o → b ≠ X.env.locals := fun b o e q => absurd (q ▸ Heap.lt_size e) (Nat.not_lt.mpr I.ok.above)
  have hokH : HOk X.prog X.w H h' := fun b ob e => (I.hok b ob e).stay (fun c w' hc q => (sb.2 c fun z => by
    subst z
    rcases hc with hc | hc
    · rw [← hc, I.free] at e; cases e
    · rw [I.free] at hc; cases hc).trans q) (fun _ q => q) fun _ _ q => q
  have J : Inv X pins (σ.set i (some v)) H { s with heap := h', toks := s.toks + 1 } := by
    refine ⟨I.ok, I.os, I.bare, ?_, ⟨_, hm', ?_⟩, ?_, I.free, I.freeC, ?_, hokH, by simpa using I.len⟩
    · refine ⟨?_, ?_, I.base.free, ?_, I.base.tups, I.base.frzs, I.base.tbls⟩
      · intro b o e n hb hx
        exact (sb.2 b (far b o e)).trans (I.base.keep b o e n hb hx)
      · intro b o e n hb hx
        obtain ⟨sl, q⟩ := I.base.slot b o e n hb hx
        exact ⟨sl, (sb.2 b (far b o e)).trans q⟩
      · intro b o e hx
        obtain ⟨o', q⟩ := I.base.there b o e hx
        exact ⟨o', (sb.2 b (far b o e)).trans q⟩
    · intro j y v' e1 e2 e3
      rcases Decidable.em (j = i) with hj | hj
      · subst hj
        obtain rfl : x = y := Option.some.inj (hi.symm.trans e1)
        rw [List.getElem?_set_self size] at e2
        obtain rfl : v = v' := Option.some.inj (Option.some.inj e2)
        exact ⟨u, r, .inl ⟨hk, if_pos rfl⟩⟩
      · rw [List.getElem?_set_ne (Ne.symm hj)] at e2
        obtain ⟨u', r', q⟩ := hlook j y v' e1 e2 e3
        refine ⟨u', r', q.elim (fun q => .inl ⟨q.1, ?_⟩) fun ⟨k, c, e, z⟩ => .inr ⟨k, c, e, z.sameBut sb (I.cne y c e)⟩⟩
        exact (if_neg fun z : y = x => hj (nodup_ix hN e1 (z ▸ hi))).trans q.2
    · intro y c e
      obtain ⟨w', z⟩ := I.cell y c e
      exact ⟨w', z.sameBut sb (I.cne y c e)⟩
    · intro p hp
      obtain ⟨a1, a2, a3, a4⟩ := I.pin p hp
      exact ⟨(sb.2 p.1 a3).trans a1, a2, a3, a4⟩
  exact ⟨_, H, J, ⟨rfl, fun _ z => z, fun b o _ hb e => (sb.2 b hb).trans e⟩, h⟩
/-- xs.append(y) of two names -/
def tApp (i j : Nat) : TE := fun σ H Q => ∃ l xs y, σ[i]? = some (some (V.ref l)) ∧ σ[j]? = some (some y) ∧ H l = some (.lst xs) ∧ xs.length < sizeLine ∧ Q .non (upd H l (.lst (xs ++ [y])))
theorem qe_append {i j : Nat} {x y : PySem.Str} {px py : Pos} (hx : X.N[i]? = some x) (kx : X.env.kindOf x = some .local) (vx : Vis X.env.scope x) (hy : X.N[j]? = some y) (ky : X.env.kindOf y = some .local) (vy : Vis X.env.scope y)
    (hbase : attributeBase (.Name x px) "append" X.env (eval (.Name x px) X.env) = eval (.Name x px) X.env := by rfl) (hline : (apos.endLine == pos.line) = true := by rfl)
    (htrees : backTo pos (starEach [.Name y py] X.env) = [(false, eval (.Name y py) X.env)] := by rfl)
    (dx : (x == ("__debug__" : PySem.Str)) = false := by decide) (dy : (y == ("__debug__" : PySem.Str)) = false := by decide) :
    QE X (.Call (.Attribute (.Name x px) "append" apos) [.Name y py] [] pos) (tApp i j) := by
  refine ⟨fun pins s σ H Q I ⟨l, xs, v, e1, e2, hH, hz, q⟩ => ?_⟩
  refine wpAny_Call_method1_late hbase hline htrees (thn ((qe_var hx kx vx dx).run pins s σ H (fun w H' => w = .ref l ∧ H' = H) I ⟨_, e1, rfl, rfl⟩) fun ov s1 ⟨w, H1, I1, z1, r1, e3, e4⟩ => ?_)
  rw [e4] at I1 z1
  rw [e3] at r1
  obtain rfl : ov = Value.ref l := r1
  obtain ⟨_, its, n, r, hl, eo⟩ := I1.lstM hH
  refine ⟨"list", "list.append", F.plainAttrs_list, F.slot_list_append, rfl, ⟨_, eo, rfl⟩, fun a ea => ?_, ?_⟩
  · cases ea
    exact ⟨_, eo, rfl⟩
  refine Calls.callWith_builtin rfl (Calls.evalArgs_plain (Calls.spliced_cons (thn ((qe_var hy ky vy dy).run pins s1 σ H (fun w H' => w = v ∧ H' = H) I1 ⟨_, e2, rfl, rfl⟩) fun u s2 ⟨w, H2, I2, z2, r2, e3, e4⟩ => Calls.spliced_nil ?_)))
  rw [e4] at I2 z2
  rw [e3] at r2
  obtain ⟨_, its, n, r, hl, eo⟩ := I2.lstM hH
  refine call_meets F.slot_list_append ⟨_, eo, rfl⟩ F.entry_list_append (F.args_list_append_2 _ _) (PySem.list_append l its.toArray n u (by rw [List.size_toArray]; omega)) ⟨eo, ?_⟩
  have J := I2.lset (its' := its ++ [u]) (t' := s2.toks) (n := n) (f := (·.push u)) hH eo (by simp) (r.append (.cons r2 .nil)) (by rw [List.length_append, List.length_singleton]; omega)
  refine ⟨.non, _, J, (z1.trans z2).trans ⟨rfl, fun b hb => ?_, fun b o n _ e => ?_⟩, rfl, q⟩
  · have : b ≠ l := fun z => by rw [z, hH] at hb; cases hb
    rw [upd_ne this]; exact hb
  · have : b ≠ l := fun z => by rw [z, hH] at n; cases n
    exact (Heap.get?_update_other _ _ (Ne.symm this)).trans e
/-- len(xs) == k -/
def tLenEq (i : Nat) (k : Int) : TT := fun σ H Q => ∃ l xs, σ[i]? = some (some (V.ref l)) ∧ H l = some (.lst xs) ∧ Q (((xs.length : Nat) : Int) == k) H
theorem qt_leneq {i : Nat} {x : PySem.Str} {k : Int} {j : _} {px p1 p2 p3 p4 : Pos} (hx : X.N[i]? = some x) (kx : X.env.kindOf x = some .local) (vx : Vis X.env.scope x) (hg : Gl X "len") (hm : X.mg "len" = none)
    (dx : (x == ("__debug__" : PySem.Str)) = false := by decide) (he : starEach [.Name x px] X.env = (false, eval (.Name x px) X.env) :: starEach [] X.env := by rfl) :
    QT X (.Compare (.Call (.Name "len" p1) [.Name x px] [] p2) [.Eq] [.Constant (.int k) j p3] p4) (tLenEq i k) := by
  refine ⟨fun pins s σ H Q I ⟨l, xs, e1, hH, q⟩ => ?_⟩
  refine wpAny_isTrue_Compare1 (wpAny_Call_Name_kw (ld_blt I hg hm rfl ?_)) (nomark _)
  refine PyProof.Rows.callWith_builtin1 ?_ he rfl
  rw [he]
  show wpAny _ _ (spliced ((false, eval (.Name x px) X.env) :: backTo p2 (starEach [] X.env))) _ _ s
  refine Calls.spliced_cons (thn ((qe_var hx kx vx dx).run pins s σ H (fun w H' => w = .ref l ∧ H' = H) I ⟨_, e1, rfl, rfl⟩) fun ov s1 ⟨w, H1, I1, z1, r1, e3, e4⟩ => Calls.spliced_nil ?_)
  rw [e4] at I1 z1
  rw [e3] at r1
  obtain rfl : ov = Value.ref l := r1
  obtain ⟨zl, its, n, r, hl, eo⟩ := I1.lstM hH
  have big := line63
  refine Calls.call_len_list (items := its.toArray) ⟨_, eo, rfl, n, rfl⟩ (by simp only [List.size_toArray]; omega) ?_
  refine wpAny_Constant_int ?_
  refine eq_int ?_
  refine wpAny_truthy_bool ⟨H, I1.tok _ |>.tok _, z1.trans (.trans .tok .tok), ?_⟩
  rw [List.size_toArray, ← hl]
  exact q
end
end TS
end
/-! G11 -/
set_option linter.all false
set_option maxRecDepth 100000
set_option maxHeartbeats 4000000
noncomputable section
/-! a generator that is woken twice -/
namespace TS
open PySem PySem.Spec PyProof.Rows L2 PySem.Froz Evl GenW

theorem seg_absurd {M : Model} {A : Around} {R : GenEnd} {Y : Protocol} {n : Nat} {s₀ : Shared} {c : Code} {t : Sem PySem.Fin} {fs : List Frame} {s : Shared} {α : Type} {m : Sem α}
    (h : wpAny M (A.over c fs) m (fun _ _ => False) (fun _ _ => False) s) : Seg M A R Y n s₀ c t fs s := by
  rw [seg_iff]
  rintro Γ p rfl hΓ
  obtain ⟨_, _, _, z⟩ := runs_wrap_of_wp (Φ := fun _ _ => False) (fun _ => (.pure (.done .next) : Sem PySem.Fin)) .raise id id m (h (Γ.over fs) p (hΓ.over fs)) (fun _ _ _ z => z.elim) fun _ _ _ z => z.elim
  exact z.elim
/-- no exception leaves this frame -/
def Never (X : Cx) : Prop := ∀ e s', X.xe e s' → wpAny (model X.prog X.w) X.A (leaving X.env e) (fun _ _ => False) (fun _ _ => False) s'
section
variable {X : Cx} {st : Stmt} {rest rest2 body : List Stmt}
theorem first_while {test : Expr} {pos : Pos} {tc : TT} {tb : TF} (nv : Never X) (hc : PT X test tc) (hb : First X body tb) : First X (.While test body [] pos :: rest) (fun σ H D => tc σ H fun b H1 => b = true ∧ tb σ H1 D) := by
  refine ⟨fun A Y s₀ c fs K J gd lv s σ H D ho hsp hg hgd hco hi hJ hY I ht => ?_⟩
  refine seg_execs_cons (seg_While fun p => ?_)
  have over : ∀ (kk : Result → Sem PySem.Fin), A.over (.whileLoop test body [] X.env) (.ret kk none (gd false) (lv []) c p [] :: fs) = X.A := fun kk => (over_loop rfl rfl).trans ho
  refine seg_whileLoop ?_
  rw [over]
  refine wpAny_mono (hc.run _ s σ H _ I ht) (fun b s' ⟨H2, I2, q1, q2⟩ => ?_) fun x s' hx => ?_
  · subst q1
    rw [if_pos rfl]
    refine hb.run A Y s₀ _ _ _ _ id id s' σ H2 D (over _) ?_ ?_ rfl hco hi (fun e s3 hx => ?_) hY I2 q2
    · show (splitAtGen fs).map _ = none
      rw [hsp]; rfl
    · show (gd false || fs.any Frame.guarded) = false
      rw [hgd, hg]; rfl
    · refine seg_absurd (m := leaving X.env e) ?_
      rw [over]; exact nv e s3 hx
  · refine seg_absurd (m := leaving X.env x) ?_
    rw [over]; exact nv x s' hx
end
abbrev TF2 := L2.St → Hp → (V → L2.St → Hp → Prop) → Prop
/-- statements up to the first yield -/
structure Fst2 (X : Cx) (body rest : List Stmt) (t : TF2) : Prop where
  run : ∀ (A : Around) (Y : Protocol) (s₀ : Shared) (c : Code) (fs : List Frame) (K : Flow → Sem PySem.Fin) (J : Value → Sem PySem.Fin) (gd : Bool → Bool) (lv : List Value → List Value) (s : Shared) (σ : L2.St) (H : Hp) (D : V → L2.St → Hp → Prop),
    A.over c fs = X.A → splitAtGen fs = none → fs.any Frame.guarded = false → gd false = false → X.env.scope.isCoroutine = false → interactive X.env = false →
    (∀ e s', X.xe e s' → Seg (model X.prog X.w) A NoEnd Y 2 s₀ c (J e) fs s') →
    (∀ σ' H' x v s' kap, Inv X [] σ' H' s' → RelV x v → D x σ' H' → (∀ s'', Seg (model X.prog X.w) A NoEnd Y 1 s'' c ((execs rest X.env).wrap K J gd lv) fs s'' → kap (.send .none) s'') → Y 1 s₀ v s' kap) →
    Inv X [] σ H s → t σ H D → Seg (model X.prog X.w) A NoEnd Y 2 s₀ c ((execs body X.env).wrap K J gd lv) fs s
section
variable {X : Cx} {st : Stmt} {rest body : List Stmt}
theorem fst2_yield {e : Expr} {te : TE} {yp pos : Pos} (he : PE X e te) : Fst2 X (.Expr (.Yield (some e) yp) pos :: rest) rest (fun σ H D => te σ H fun x H1 => D x σ H1) := by
  refine ⟨fun A Y s₀ c fs K J gd lv s σ H D ho hsp hg hgd hco hi hJ hY I ht => ?_⟩
  refine seg_execs_cons (seg_Expr_Yield hsp hgd hg ?_ hco hi)
  rw [ho]
  exact wpAny_mono (he.run [] s σ H _ I ht) (fun v s' ⟨x, H1, I1, rv, q⟩ kap hk => hY σ H1 x v s' kap I1 rv q fun s'' z => hk .none s'' z) fun x s' hx => hJ x s' hx
theorem fst2_cons {t : TS} {u : TF2} (a : PS X st t) (b : Fst2 X body rest u) : Fst2 X (st :: body) rest (fun σ H D => t { nx := fun σ' H' => u σ' H' D, rt := fun _ _ => False } σ H) := by
  refine ⟨fun A Y s₀ c fs K J gd lv s σ H D ho hsp hg hgd hco hi hJ hY I ht => ?_⟩
  refine seg_execs_cons (seg_wrap ?_)
  rw [ho]
  refine wpAny_mono (a.run [] s σ H _ I ht) (fun f s' hs => ?_) fun x s' hx => hJ x s' hx
  cases f with
  | next =>
    obtain ⟨σ1, H1, I1, q1⟩ := hs
    exact b.run A Y s₀ c fs K J gd lv s' σ1 H1 D ho hsp hg hgd hco hi hJ hY I1 q1
  | brk => exact hs.elim fun _ z => z.elim fun _ z => z.2.elim
  | cont => exact hs.elim fun _ z => z.elim fun _ z => z.2.elim
  | ret u => exact hs.elim fun _ z => z.elim fun _ z => z.elim fun _ z => z.2.2.elim
end
/-- the first item, the heap then; what the generator wants of the heap when it is woken, and what is wanted of the second item -/
abbrev D2T := V → Hp → (Hp → (V → Hp → Prop) → Prop) → Prop
def young (n m : Nat) : List Addr := List.range' n (m - n)
theorem not_young {n m b : Nat} (h : b < m) (hx : b ∉ young n m) : b < n := by
  rcases Nat.lt_or_ge b n with q | q
  · exact q
  · exact absurd (List.mem_range'_1.mpr ⟨q, by omega⟩) hx
structure Wk1 (P : Program) (w : World) (outer : List Env) (H : Hp) (s : Shared) (a : Addr) (g : Nat) (H1 : Hp) (t1 : Shared) : Prop where
  os : t1.os = s.os
  bare : AllBare t1.gens
  un : Un (frs outer) [] H H1 s.heap t1.heap
  hok : HOk P w H1 t1.heap
  lim : t1.heap.NoLimit
  gen : t1.heap.IsGen a g
  dark : H1 a = none
structure Wk2 (P : Program) (w : World) (outer : List Env) (n : Nat) (H2 : Hp) (t2 : Shared) (H3 : Hp) (t3 : Shared) : Prop where
  os : t3.os = t2.os
  bare : AllBare t3.gens
  un : Un (frs outer) (young n t2.heap.objs.size) H2 H3 t2.heap t3.heap
  hok : HOk P w H3 t3.heap
/-- what a consumer promises when it wakes the generator again -/
structure Slept2 (n : Nat) (os : OsState) (H1 : Hp) (t1 : Shared) (H2 : Hp) (t2 : Shared) : Prop where
  os : t2.os = os
  dark : ∀ b, H1 b = none → (∃ o, t1.heap.get? b = some o) → H2 b = none
  keep : ∀ b o, n ≤ b → H1 b = none → t1.heap.get? b = some o → t2.heap.get? b = some o
def FMade2 (P : Program) (w : World) (K : PySem.W.Frag) (mg : PySem.Str → Option Value) (base : Heap) (k : Nat) (outer : List Env) (H : Hp) (s : Shared) (D : D2T) (u : Value) (t : Shared) : Prop :=
  ∃ (a : Addr) (g : Nat) (c : Code), u = .ref a ∧ s.heap.objs.size ≤ a ∧ t.heap.IsGen a g ∧ t.gens[g]? = some (.fresh c) ∧ t.os = s.os ∧ AllBare t.gens ∧ t.heap.NoLimit ∧ (∀ b o, s.heap.get? b = some o → t.heap.get? b = some o) ∧
    ∀ (A : Around) (r : Shared) (Y : Protocol), Room k A → A.frames = some outer → (∀ b o, t.heap.get? b = some o → r.heap.get? b = some o) → r.os = s.os → AllBare r.gens →
      (∀ x v H1 t1 kap R, RelV x v → Wk1 P w outer H s a g H1 t1 → D x H1 R →
        (∀ t2 H2 D2, Env0 P w K mg base A outer t2 H2 → Slept2 s.heap.objs.size s.os H1 t1 H2 t2 → R H2 D2 →
          (∀ x v H3 t3 kap, RelV x v → Wk2 P w outer s.heap.objs.size H2 t2 H3 t3 → D2 x H3 → Y 0 t2 v t3 kap) → kap (.send .none) t2) → Y 1 r v t1 kap) →
      Seg (model P w) A NoEnd Y 2 r c ((model P w).den c) [] r
abbrev SpF2 := List V → Hp → D2T → Prop
structure GF2 (P : Program) (w : World) (K : PySem.W.Frag) (mg : PySem.Str → Option Value) (base : Heap) (k : Nat) (f : Addr) (fd : FuncData) (ps : List PySem.Str) (sp : SpF2) : Prop where
  len : ∀ vs H D, sp vs H D → vs.length = ps.length
  run : ∀ (A : Around) (outer : List Env) (s : Shared) (H : Hp) (args : Args) (us : List Value) (vs : List V) (D : D2T), Room k A → Env0 P w K mg base A outer s H → BindsTo s fd args (ps.zip us) → Vals vs us → sp vs H D →
    codeAny (model P w) A (.call (.ref f) args) (fun r t => match r with | .ok (.ret u) => FMade2 P w K mg base k outer H s D u t | _ => False) s
theorem unpinG {P : Program} {w : World} {K : PySem.W.Frag} {mg : PySem.Str → Option Value} {base : Heap} {N : List PySem.Str} {qual : PySem.Str} {scope : Scope} {f : Addr} {cd : Value} {A : Around} {outer : List Env} {s s1 : Shared} {H H' : Hp} {E E' : XK} {pn : List (Addr × Obj)} {σ : L2.St}
    (I : Inv (gcxOf P w K mg base N qual scope f cd A outer s H E pn) [] σ H' s1) : Inv (gcxOf P w K mg base N qual scope f cd A outer s H E' []) [] σ H' s1 := by
  have k := I.ok
  exact ⟨⟨k.mod, k.kind, k.glob, k.blt, k.above, k.inj, k.has, k.cab, k.hd, k.frames, k.stk, k.exf, k.bs, k.bsz, k.noex, k.exfs, k.funs, k.frf⟩, I.os, I.bare, I.base, I.loc, I.cell, I.free, I.freeC, (fun p hp => absurd (show p ∈ ([] : List (Addr × Obj)) from hp) (by simp)), I.hok, I.len⟩
theorem never_gcx {P : Program} {w : World} {K : PySem.W.Frag} {mg : PySem.Str → Option Value} {base : Heap} {N : List PySem.Str} {qual : PySem.Str} {scope : Scope} {f : Addr} {cd : Value} {A : Around} {outer : List Env} {s : Shared} {H : Hp} {pn : List (Addr × Obj)} :
    Never (gcxOf P w K mg base N qual scope f cd A outer s H EN pn) := fun e s' hx => wpAny_mono hx (fun _ _ q => cx_en q.1) fun _ _ q => q
theorem gf2_of {P : Program} {w : World} {K : PySem.W.Frag} {mg : PySem.Str → Option Value} {base : Heap} {k : Nat} {f : Addr} {name qual : PySem.Str} {params : Arguments} {body : List Stmt} {scope : Scope} {dV kV doc pm cdv ct oc : Value} {an od : Option Addr}
    {osl : Array (Option Value)} {N ps : List PySem.Str} {sp : SpF2} {rest : List Stmt} (lk : K.lookup f = some ⟨oc, od, .func (PySem.W.fnOf name qual params body scope dV kV doc pm an cdv ct), osl⟩) (hcd : PySem.W.codeIn K cdv qual = true) (S : GScope N ps scope) (len : ∀ vs H D, sp vs H D → vs.length = ps.length)
    (hi : ∀ l, interactive (envOfC qual scope l f cdv) = false)
    (hbody : ∀ (A : Around) (outer : List Env) (s : Shared) (H : Hp) (vs : List V) (D : D2T) (pn : List (Addr × Obj)), Room k (A.deeper (envOfC qual scope s.heap.objs.size f cdv)) → sp vs H D →
      ∃ t, Fst2 (gcxOf P w K mg base N qual scope f cdv A outer s H EN pn) body rest t ∧ t (start N vs) H fun x σ' H' => ∃ R, D x H' R ∧ ∀ (H2 : Hp) (D2 : V → Hp → Prop), R H2 D2 →
        ∀ s' : Shared, s'.heap.objs.size = s.heap.objs.size → ∃ u, First (gcxOf P w K mg base N qual scope f cdv A outer s' H2 EN pn) rest u ∧ u σ' H2 D2) :
    GF2 P w K mg base (k + 1) f (PySem.W.fnOf name qual params body scope dV kV doc pm an cdv ct) ps sp := by
  refine ⟨len, fun A outer s H args us vs D hr e0 hb r hsp => ?_⟩
  have hl := len _ _ _ hsp
  have KX : K.In s.heap := e0.mod.kin.keeps fun b o e => (e0.bs b o e).1
  have lim0 : s.heap.NoLimit := e0.mod.nolimit.keeps fun b o e => (e0.bs b o e).1
  refine codeAny_call_generator hr.depth (KX _ _ lk) rfl S.co S.gen rfl (PySem.W.codeRec_of KX hcd) (hb _ _ _ _ ?_)
  refine wpAny_newFunctionEnv_cells S.kind (fun ⟨n, v⟩ hy => (S.par n (List.of_mem_zip hy).1).elim .inl fun q => .inr ⟨q, PySem.W.cellsFrom_some _ _ _ (.inl q)⟩) fun env he t x => ?_
  subst he
  have lim1 : t.heap.NoLimit := lim0.keeps x.toInCall.keep
  refine ⟨lim1, ?_⟩
  obtain ⟨h1, tk, es1, hk1⟩ := x.done
  have os1 : t.os = s.os := by rw [es1]
  have gen1 : t.gens = s.gens := by rw [es1]
  have lt1 : s.heap.objs.size < t.heap.objs.size := x.toInCall.ns.lt
  have sz1 : s.heap.objs.size ≤ t.heap.objs.size := Nat.le_of_lt lt1
  have main : ∀ (go : Obj) (nm qn : Value) (tk2 : Nat), go.cls = .type "generator" → go.data = .fields #[.int t.gens.size 0, nm, qn] → go.slots = #[] → (∀ h : Heap, (h.push go).get? h.objs.size = some go) →
      FMade2 P w K mg base (k + 1) outer H s D (.ref t.heap.objs.size) { t with gens := t.gens.push (.fresh (.func body (envOfC qual scope s.heap.objs.size f cdv))), toks := tk2, heap := t.heap.push go } := by
    intro go nm qn tk2 hgc hgd0 hgs hgp
    have hgen : ∀ h : Heap, h.get? t.heap.objs.size = some go → h.IsGen t.heap.objs.size t.gens.size := fun h e => ⟨go, nm, qn, e, hgc, hgd0, hgs⟩
    refine ⟨t.heap.objs.size, t.gens.size, _, rfl, sz1, hgen _ (hgp _), Array.getElem?_push_size .., os1, AllBare.push (by rw [gen1]; exact e0.bare) rfl, lim1.keeps fun b o e => Heap.get?_push_of_some _ e,
      fun b o e => Heap.get?_push_of_some _ (x.toInCall.keep b o e), ?_⟩
    intro Aw s2 Y hrw hfr hk2 hos hba hY
    have e0w : Env0 P w K mg base Aw outer s H := ⟨hfr, e0.mod, e0.bs, e0.bsz, e0.funs, e0.frf, e0.hok, e0.bare⟩
    obtain ⟨tt, ht, hq⟩ := hbody Aw outer s H vs D [(t.heap.objs.size, go)] (hrw.deeper _) hsp
    have I1 : Inv (gcxOf P w K mg base N qual scope f cdv Aw outer s H EN []) [] (start N vs) H t := inv_startG S hrw.hd e0w hl r x
    have kp2 : ∀ b o, t.heap.get? b = some o → s2.heap.get? b = some o := fun b o e => hk2 b o (Heap.get?_push_of_some _ e)
    have I2 : Inv (gcxOf P w K mg base N qual scope f cdv Aw outer s H EN []) [] (start N vs) H s2 := I1.call' (ch := []) (hos.trans os1.symm) (Un.kept kp2) (I1.hok.kept kp2) hba fun b z => by simp at z
    have hgd : ∀ v, go.data ≠ .cell v := fun v q => by rw [hgd0] at q; cases q
    have pinned : ∀ (Z : Shared) (HZ : Hp), Z.heap.get? t.heap.objs.size = some go → HZ t.heap.objs.size = none → ∀ p ∈ [(t.heap.objs.size, go)] ++ ([] : List (Addr × Obj)), Z.heap.get? p.1 = some p.2 ∧ HZ p.1 = none ∧ p.1 ≠ (envOfC qual scope s.heap.objs.size f cdv).locals ∧ p.1 ∉ frs outer ∧ ∀ v, p.2.data ≠ .cell v := by
      intro Z HZ e1 e2 p hp
      simp only [List.append_nil, List.mem_singleton] at hp
      subst hp
      exact ⟨e1, e2, Nat.ne_of_gt lt1, I1.nofs (Nat.le_refl _), hgd⟩
    have I3 := Inv.pinnedG (pn := [(t.heap.objs.size, go)]) I2 (pinned s2 H (hk2 _ _ (hgp _)) (I1.hok.fresh (Nat.le_refl _)))
    refine seg_func (ht.run Aw Y s2 _ [] _ _ _ _ s2 (start N vs) H _ over_func rfl rfl rfl S.co (hi _) (fun e t1 hx => ?_) (fun σ1 H1 y v t1 kap J rv ⟨R, hD, hR⟩ hkap => ?_) I3 hq)
    · refine seg_absurd (m := leaving (envOfC qual scope s.heap.objs.size f cdv) e) ?_
      rw [over_func]
      exact never_gcx e t1 hx
    obtain ⟨pg, pd, -⟩ := J.pin (t.heap.objs.size, go) (by simp [gcxOf])
    refine hY y v H1 t1 kap R rv ⟨J.os, J.bare, J.base, J.hok, J.nolimit, hgen _ pg, pd⟩ hD fun t2 H2 D2 e2 sl hR2 hZ => hkap t2 ?_
    have J0 : Inv (gcxOf P w K mg base N qual scope f cdv Aw outer s H EN []) [] σ1 H1 t1 := unpinG J
    obtain ⟨mL, ⟨oL, _, _, hoL, _⟩, _⟩ := id J0.loc
    obtain ⟨s', hsz, hos', hget, K0⟩ := rebase J0 e2 (fun b o hb n e _ => sl.keep b o hb n e) (sl.dark _ J0.free ⟨oL, hoL⟩) fun y c e => sl.dark c (J0.freeC y c e) (by obtain ⟨v, o, ho, _⟩ := J0.cell y c e; exact ⟨o, ho⟩)
    have K1 := Inv.pinnedG (pn := [(t.heap.objs.size, go)]) K0 (by rw [hsz]; exact pinned t2 H2 (sl.keep _ _ sz1 pd pg) (sl.dark _ pd ⟨go, pg⟩))
    obtain ⟨u, hu, hq2⟩ := hR H2 D2 hR2 s' hsz
    have ee : (gcxOf P w K mg base N qual scope f cdv Aw outer s' H2 EN [(t.heap.objs.size, go)]).env = (gcxOf P w K mg base N qual scope f cdv Aw outer s H EN [(t.heap.objs.size, go)]).env := by
      show envOfC qual scope s'.heap.objs.size f cdv = envOfC qual scope s.heap.objs.size f cdv
      rw [hsz]
    have over2 : Aw.over (.func body (envOfC qual scope s.heap.objs.size f cdv)) [] = (gcxOf P w K mg base N qual scope f cdv Aw outer s' H2 EN [(t.heap.objs.size, go)]).A := by
      show _ = Aw.deeper (envOfC qual scope s'.heap.objs.size f cdv)
      rw [hsz]; exact over_func
    have z := hu.run Aw Y t2 (.func body (envOfC qual scope s.heap.objs.size f cdv)) [] (fun f => .pure (.done (.ret (match f with | .ret v => v | _ => .none)))) (fun e => (leaving (envOfC qual scope s.heap.objs.size f cdv) e).wrap (fun _ => .raise e) .raise id id) id id t2 σ1 H2 D2 over2 rfl rfl rfl S.co (by rw [ee]; exact hi _)
      (fun e t3 hx => ?_) (fun σ3 H3 y3 v3 t3 kap3 J3 rv3 hD3 => ?_) K1 hq2
    · rw [ee] at z
      exact z
    · refine seg_absurd (m := leaving (gcxOf P w K mg base N qual scope f cdv Aw outer s' H2 EN [(t.heap.objs.size, go)]).env e) ?_
      rw [over2]
      exact never_gcx e t3 hx
    · refine hZ y3 v3 H3 t3 kap3 rv3 ⟨J3.os.trans hos', J3.bare, ?_, J3.hok⟩ hD3
      have low : ∀ b o, t2.heap.get? b = some o → b ∉ young s.heap.objs.size t2.heap.objs.size → s'.heap.get? b = some o := fun b o e hx => (hget b (not_young (Heap.lt_size e) hx)).trans e
      exact ⟨fun b o e n hf hx => J3.base.keep b o (low b o e hx) n hf (by simp [gcxOf, cxOf]), fun b o e n hf hx => J3.base.slot b o (low b o e hx) n hf (by simp [gcxOf, cxOf]), fun b o e n hx => J3.base.free b o (low b o e hx) n (by simp [gcxOf, cxOf]),
        fun b o e hx => J3.base.there b o (low b o e hx) (by simp [gcxOf, cxOf]), J3.base.tups, J3.base.frzs, J3.base.tbls⟩
  exact main _ _ _ _ rfl rfl rfl fun h => Heap.get?_push_size _ rfl
end TS
end
/-! G12 -/
set_option linter.all false
set_option maxRecDepth 100000
set_option maxHeartbeats 4000000
noncomputable section
/-! a loop over a generator that goes as far as its second item -/
namespace TS
open PySem PySem.Spec PyProof.Rows L2 PySem.Froz Evl GenW

abbrev TFF := L2.St → Hp → D2T → Prop
structure PFirst2 (X : Cx) (k : Nat) (e : Expr) (t : TFF) : Prop where
  run : ∀ (pins : List (Addr × Obj)) (s : Shared) (σ : L2.St) (H : Hp) (D : D2T), Inv X pins σ H s → t σ H D → wpAny (model X.prog X.w) X.A (eval e X.env)
    (fun u s' => ∃ H1 sc, Inv X pins σ H1 sc ∧ FMade2 X.prog X.w X.K X.mg X.base k X.stack H1 sc D u s') X.xe s
def tCallF2 (sp : SpF2) (dvs : List V) (t : TA) : TFF := fun σ H D => t σ H fun vs H1 => sp (vs ++ dvs) H1 D
section
variable {X : Cx} {k : Nat} {f : Addr} {fd : FuncData} {ps : List PySem.Str} {sp : SpF2} {dvs : List V} {ds : List Value} {x v : PySem.Str} {p pos px : Pos}
theorem pfirst2_call {e : Expr} {es : List Expr} {t : TA} (F : GF2 X.prog X.w X.K X.mg X.base k f fd ps sp) (hr : Room k X.A) (hg : Gl X x) (hm : X.mg x = some (.ref f)) (hk : PySem.W.keepIn X.K (.ref f) = true) (hb : Binds X.K fd ps ds) (hd : Vals dvs ds)
    (ha : PA X (e :: es) t) (hdb : (x == ("__debug__" : PySem.Str)) = false := by decide) (he : starEach (e :: es) X.env = (false, eval e X.env) :: starEach es X.env := by rfl) (hpl : (backTo pos (starEach es X.env)).any (·.1) = false := by rfl) :
    PFirst2 X k (.Call (.Name x p) (e :: es) [] pos) (tCallF2 sp dvs t) := by
  refine ⟨fun pins s σ H D I h => wpAny_Call_Name_kw (ld_glob I hg hm ?_ hdb)⟩
  refine PySem.W.callWith_K (h₀ := X.base) I.ok.mod.kin hk (thn (ha.run pos pins s σ H _ I h) fun us s1 ⟨vs, H1, I1, r, q⟩ => ⟨I1.kIn, ?_⟩) he hpl
  have r2 : Vals (vs ++ dvs) (us ++ ds) := r.append hd
  have hl2 : (us ++ ds).length = ps.length := r2.length.symm.trans (F.len _ _ _ q)
  refine wpAny_call (codeAny_mono (F.run X.A X.stack s1 H1 ⟨us, []⟩ (us ++ ds) (vs ++ dvs) D hr I1.env0 (hb s1 us I1.kIn hl2) r2 q) fun r s' hq => ?_)
  cases r with
  | error e => exact hq.elim
  | ok fl =>
    cases fl with
    | ret u => exact ⟨H1, s1, I1, hq⟩
    | next => exact hq.elim
    | brk => exact hq.elim
    | cont => exact hq.elim
/-- the first turn comes to its end, the second one breaks off -/
def tFor2 (tf : TFF) (g : TG) (tb : TS) : TS := fun D σ H => tf σ H fun x H1 R => g x σ H1 fun σ2 H2 =>
  tb { nx := fun σ3 H3 => ∃ D2 : V → Hp → Prop, R H3 D2 ∧ ∀ y H4, D2 y H4 → g y σ3 H4 fun σ5 H5 => tb { nx := fun _ _ => False, rt := fun _ _ => False, bk := D.nx } σ5 H5, rt := fun _ _ => False } σ2 H2
theorem ps_for2 {iter : Expr} {body : List Stmt} {tf : TFF} {g : TG} {tb : TS} (hp : PassesOwn (model X.prog X.w) X.A X.env X.xe) (hi : PFirst2 X k iter tf) (hr : Room (k + 1) X.A) (hg : QG X (.Name v px) g) (hb : QSs X body tb)
    (hs : ∀ x, foldedSetIterable iter X.env x = pure x := by intro _; rfl) : PS X (.For (.Name v px) iter body [] pos) (tFor2 tf g tb) := by
  refine ⟨fun pins s σ H D I h => ?_⟩
  refine wpAny_For (thn (hi.run pins s σ H _ I h) fun u s1 ⟨H1, sc, I1, a, n, c, eu, ha, isg, hgs, hos, hba, hl, hk, wake⟩ => ?_) hs
  subst eu
  let End2 : L2.St → Hp → Prop := fun σ5 H5 => tb { nx := fun _ _ => False, rt := fun _ _ => False, bk := D.nx } σ5 H5
  let Mid : V → Hp → (Hp → (V → Hp → Prop) → Prop) → Prop := fun x H1 R => g x σ H1 fun σ2 H2 =>
    tb { nx := fun σ3 H3 => ∃ D2 : V → Hp → Prop, R H3 D2 ∧ ∀ y H4, D2 y H4 → g y σ3 H4 End2, rt := fun _ _ => False } σ2 H2
  let Y : Protocol := fun m s₀ v t kap => match m with
    | 0 => ∃ y σ3 H4, RelV y v ∧ Inv X pins σ3 H4 t ∧ g y σ3 H4 End2
    | _ + 1 => ∃ x Ha R, RelV x v ∧ Wk1 X.prog X.w X.stack H1 sc a n Ha t ∧ Mid x Ha R ∧
      ∀ t2 H2 D2, Env0 X.prog X.w X.K X.mg X.base X.A.in1 X.stack t2 H2 → Slept2 sc.heap.objs.size sc.os Ha t H2 t2 → R H2 D2 → (∀ x v H3 t3, RelV x v → Wk2 X.prog X.w X.stack sc.heap.objs.size H2 t2 H3 t3 → D2 x H3 → ∃ y σ3 H4, RelV y v ∧ Inv X pins σ3 H4 t3 ∧ g y σ3 H4 End2) → kap (.send .none) t2
  have weak : ∀ {m : Nat} {gs : GenState} {r : Resume} {t : Shared}, gs.Goes (model X.prog X.w) X.A.in1 NoEnd Y m r t → gs.Goes (model X.prog X.w) X.A.in1 (fun n s₀ r s₁ => ((r = .ok (.ret .none) ∨ r = .ok .next) ∧ (fun _ _ _ => False : Nat → Shared → Shared → Prop) n s₀ s₁) ∨ ∃ e, r = .error e ∧ (fun _ _ => False : Value → Shared → Prop) e s₁) Y m r t := by
    intro m gs r t h
    have im : ∀ {s₀ : Shared} {c : Code} {tt : Sem PySem.Fin} {fs : List Frame} {s : Shared}, Seg (model X.prog X.w) X.A.in1 NoEnd Y m s₀ c tt fs s → Seg (model X.prog X.w) X.A.in1 (fun n s₀ r s₁ => ((r = .ok (.ret .none) ∨ r = .ok .next) ∧ (fun _ _ _ => False : Nat → Shared → Shared → Prop) n s₀ s₁) ∨ ∃ e, r = .error e ∧ (fun _ _ => False : Value → Shared → Prop) e s₁) Y m s₀ c tt fs s := by
      intro s₀ c tt fs s hh
      refine seg_imp (fun _ _ _ _ z => False.elim z) (fun m s₀ v s kap kap' hkk hy => ?_) m hh
      cases m with
      | zero => exact hy
      | succ m =>
        obtain ⟨x, Ha, R, q1, q2, q3, q4⟩ := hy
        exact ⟨x, Ha, R, q1, q2, q3, fun t2 H2 D2 z1 z2 z3 z4 => hkk _ _ (q4 t2 H2 D2 z1 z2 z3 z4)⟩
    cases gs with
    | fresh c => exact ⟨h.1, im h.2⟩
    | suspended k₀ l₀ c₀ p₀ fs₀ cl => exact im h
    | running => exact h.elim
    | finished => exact h.elim
  refine wpAny_pyIter_gen isg (codeAny_forLoop (fun m t => (m = 1 ∧ t = s1) ∨ (m = 0 ∧ ∃ gs, t.gens[n]? = some gs ∧ t.heap.IsGen a n ∧ t.heap.NoLimit ∧ gs.Goes (model X.prog X.w) X.A.in1 (fun n s₀ r s₁ => ((r = .ok (.ret .none) ∨ r = .ok .next) ∧ (fun _ _ _ => False : Nat → Shared → Shared → Prop) n s₀ s₁) ∨ ∃ e, r = .error e ∧ (fun _ _ => False : Value → Shared → Prop) e s₁) Y 1 (.send .none) (t.setGen n .running))) ?_ 1 (.inl ⟨rfl, rfl⟩))
  have kins : ∀ {σ' : L2.St} {H' : Hp} {t : Shared} {z : GenState}, z.bare = true → Inv X pins σ' H' t → Inv X pins σ' H' (t.setGen n z) := fun hz J =>
    J.call' (ch := []) rfl (Un.kept fun _ _ q => q) J.hok (allBare_setGen J.bare hz) fun b q => by simp at q
  rintro m t (⟨rfl, rfl⟩ | ⟨rfl, gs, hgs2, isg2, lim2, goes2⟩)
  · have hgl : n < t.gens.size := (Array.getElem?_eq_some_iff.mp hgs).1
    have go : (GenState.fresh c).Goes (model X.prog X.w) X.A.in1 NoEnd Y 2 (.send .none) (t.setGen n .running) :=
      ⟨rfl, wake X.A.in1 (t.setGen n .running) Y hr.in1 I1.ok.frames (fun _ _ z => z) hos (allBare_setGen hba rfl) fun x v Ha t1 kap R rv w1 hD hk => ⟨x, Ha, R, rv, w1, hD, fun t2 H2 D2 e2 sl hR hZ => hk t2 H2 D2 e2 sl hR fun x3 v3 H3 t3 kap3 rv3 w3 hD3 => hZ x3 v3 H3 t3 rv3 w3 hD3⟩⟩
    refine wpAny_passesOwn hp (wpAny_gsz (n := n + 1) hgl (next_genG hr.hd hl hr.depth isg hgs (weak go) (fun u t1 gs' hbr hY => ?_) (fun _ z => False.elim z) fun _ _ z => False.elim z))
    intro hsz
    obtain ⟨x, Ha, R, ry, w1, q, again⟩ := hY
    have hsz1 : n < t1.gens.size := by
      have z : (t1.setGen n gs').gens.size = t1.gens.size := setGen_size _ _ _
      have z2 : n + 1 ≤ (t1.setGen n gs').gens.size := hsz
      omega
    have I2 : Inv X pins σ Ha (t1.setGen n gs') := I1.call' (ch := []) w1.os w1.un w1.hok (allBare_setGen w1.bare hbr) fun b z => by simp at z
    refine wpAny_passesOwn hp (thn (hg.run _ _ σ Ha x u _ I2 ry q) fun _ t2 ⟨σ3, H3, I3, k3, q3⟩ => ?_)
    refine wpAny_passesOwn hp (thn (hb.run _ t2 σ3 H3 _ I3 q3) fun fl t3 q4 => ?_)
    cases fl with
    | brk => exact q4.elim fun _ z => z.elim fun _ z => z.2.2.elim
    | cont => exact q4.elim fun _ z => z.elim fun _ z => z.2.2.elim
    | ret r => exact q4.elim fun _ z => z.elim fun _ z => z.elim fun _ z => z.2.2.2.elim
    | next =>
      obtain ⟨σ4, H4, I4, k4, D2, hR, hD2⟩ := q4
      have kk := k3.trans k4
      have hL : ∀ b, sc.heap.objs.size ≤ b → b ≠ X.env.locals := fun b hb e => absurd (e ▸ I1.lt : b < sc.heap.objs.size) (Nat.not_lt.mpr hb)
      refine ⟨0, Nat.zero_lt_one, .inr ⟨rfl, gs', ?_, ?_, I4.nolimit, ?_⟩⟩
      · rw [kk.gens]; exact setGen_at hsz1
      · obtain ⟨o, nm, qn, ho, rst⟩ := w1.gen
        exact ⟨o, nm, qn, kk.keep a o w1.dark (hL a ha) ho, rst⟩
      · have I5 := kins (z := .running) rfl I4
        have e5 := I5.env0
        refine again (t3.setGen n .running) H4 D2 ⟨e5.frames, e5.mod, e5.bs, e5.bsz, e5.funs, e5.frf, e5.hok, e5.bare⟩ ⟨I4.os.trans I1.os.symm, fun b z _ => kk.dark b z, fun b o hb z e => kk.keep b o z (hL b hb) e⟩ hR fun x6 v6 H6 t6 rv6 w6 hD6 => ?_
        refine ⟨x6, σ4, H6, rv6, I5.call' w6.os w6.un w6.hok w6.bare fun b hb => ?_, hD2 x6 H6 hD6⟩
        have hb1 : sc.heap.objs.size ≤ b := (List.mem_range'_1.mp hb).1
        refine ⟨.inr (Nat.le_trans I1.sz hb1), hL b hb1, fun y cc e z => ?_, fun p hp' z => ?_⟩
        · obtain ⟨vv, oo, ho, _⟩ := I1.cell y cc e
          exact absurd (Heap.lt_size ho) (Nat.not_lt.mpr (z ▸ hb1))
        · obtain ⟨ho, _⟩ := I1.pin p hp'
          exact absurd (Heap.lt_size ho) (Nat.not_lt.mpr (z ▸ hb1))
  · refine wpAny_passesOwn hp (next_genG hr.hd lim2 hr.depth isg2 hgs2 goes2 (fun u t1 gs' hbr hY => ?_) (fun _ z => False.elim z) fun _ _ z => False.elim z)
    obtain ⟨y, σ3, H4, ry, I3, q⟩ := hY
    refine wpAny_passesOwn hp (thn (hg.run _ _ σ3 H4 y u _ (kins hbr I3) ry q) fun _ t2 ⟨σ5, H5, I5, k5, q5⟩ => ?_)
    refine wpAny_passesOwn hp (thn (hb.run _ t2 σ5 H5 _ I5 q5) fun fl t3 q4 => ?_)
    cases fl with
    | next => exact q4.elim fun _ z => z.elim fun _ z => z.2.2.elim
    | cont => exact q4.elim fun _ z => z.elim fun _ z => z.2.2.elim
    | ret r => exact q4.elim fun _ z => z.elim fun _ z => z.elim fun _ z => z.2.2.2.elim
    | brk =>
      obtain ⟨σ6, H6, I6, _, q6⟩ := q4
      exact ⟨σ6, H6, I6, q6⟩
end
end TS
end
/-! Z1 -/
set_option linter.all false
set_option maxRecDepth 100000
set_option maxHeartbeats 4000000
noncomputable section
namespace Z
open PySem PySem.Spec PyProof.Rows L2 PySem.Froz Evl TS

def top (i : Nat) : Stmt := PySem.Challenge.pw_unseendials_k08_back_tables.main.body.getD i (.Pass ⟨0, 0, 0, 0⟩)
/-- a def of the module, as the written part has it -/
structure Dat (K : PySem.W.Frag) (mg : PySem.Str → Option Value) (n : String) (st : Stmt) (ps : List PySem.Str) (f : Addr) (fd : FuncData) : Prop where
  F : Fun K n n st f fd
  b : Binds K fd ps []
  g : mg n = some (.ref f)
  k : PySem.W.keepIn K (.ref f) = true
abbrev E0 : XK := fun _ _ _ => False
theorem pas0 {X : Cx} : Passes (L2.CX X.prog X.w) X E0 := fun _ _ _ _ _ _ _ ⟨_, _, _, _, _, _, _, _, _, _, _, _, z⟩ => z.elim

/-! ### pure -/
def smallsS : PySem.Str := "abcdefghijklmnopqrst"
def capsS : PySem.Str := "ABCDEFGHIJKLMNOPQRST"
def pointsS : PySem.Str := "uvwxyz"
def inS (s : PySem.Str) (t : PySem.Str) : Bool := t.cps.toList.length == 1 && t.cps.toList.all fun c => decide (c ∈ s.cps.toList)

/-- names of the module words, and built-in names that nothing hides -/
structure Wd (mg : PySem.Str → Option Value) : Prop where
  small : ∃ t, mg "SMALL_LETTERS" = some (.str smallsS t)
  walked : ∃ t, mg "MOST_WALKED" = some (.int 8 t)
  len : mg "len" = none
  all : mg "all" = none
  range : mg "range" = none
  set : mg "set" = none
  sorted : mg "sorted" = none
  list : mg "list" = none
  tuple : mg "tuple" = none
  dict : mg "dict" = none
  zip : mg "zip" = none
  enum : mg "enumerate" = none
  rev : mg "reversed" = none
  iter : mg "iter" = none
  max : mg "max" = none
  min : mg "min" = none
/-- built-in names that the law uses -/
structure Lb (mg : PySem.Str → Option Value) : Prop where
  abs : mg "abs" = none
  int : mg "int" = none
  isi : mg "isinstance" = none
  list : mg "list" = none
  bool : mg "bool" = none

abbrev s_is_small : Stmt := top 21
def spIn (s : PySem.Str) : Sp := fun vs H Q _ => ∃ x : PySem.Str, vs = [.str x] ∧ x.length ≤ 100000 ∧ RetV (.bl (inS s x)) H Q
section
variable {P : Program} {w : World} {K : PySem.W.Frag} {mg : PySem.Str → Option Value} {base : Heap}
theorem pe_gs {X : Cx} {x s : PySem.Str} {t : Tok} {pos : Pos} (hg : Gl X x) (hm : X.mg x = some (.str s t)) (hd : (x == ("__debug__" : PySem.Str)) = false := by decide) : PE X (.Name x pos) (tC (.str s)) := pe_glob hg hm ⟨t, rfl⟩ hd
theorem pe_gi {X : Cx} {x : PySem.Str} {i : Int} {t : Tok} {pos : Pos} (hg : Gl X x) (hm : X.mg x = some (.int i t)) (hd : (x == ("__debug__" : PySem.Str)) = false := by decide) : PE X (.Name x pos) (tC (.int i)) := pe_glob hg hm ⟨t, rfl⟩ hd
theorem ev_lenS {σ : L2.St} {H : Hp} {te : TE} {x : PySem.Str} (h : Ev te σ H (.str x)) (hz : x.length ≤ 100000) : Ev (tCB (fun xs H Q => ∃ z, xs = [V.str z] ∧ z.length ≤ sizeLine ∧ Q (.int z.length) H) (tCons te tNil)) σ H (.int (x.length : Int)) := fun H1 e Q q =>
  h H1 e _ fun H2 e2 => ⟨x, rfl, sz_of hz, q H2 e2⟩
theorem one_sign {x : PySem.Str} (h : x.length = 1) : ∃ c, x = ⟨#[c]⟩ := by
  obtain ⟨a⟩ := x
  have h' : a.size = 1 := h
  match a, h' with
  | ⟨[c]⟩, _ => exact ⟨c, rfl⟩
theorem inS_len {s x : PySem.Str} (h : ¬ x.length = 1) : inS s x = false := by
  have z : (x.cps.toList.length == 1) = false := by simpa [Str.length] using h
  unfold inS
  rw [z, Bool.false_and]
theorem inS_one {s : PySem.Str} {c : Nat} : inS s ⟨#[c]⟩ = decide (c ∈ s.cps.toList) := by simp [inS]
theorem int_eq {a b : Int} : decide (V.int a = V.int b) = decide (a = b) := by
  by_cases h : a = b
  · simp [h]
  · rw [decide_eq_false h, decide_eq_false fun q => h (V.int.inj q)]
/-- len(text) == 1 and text in s -/
theorem ev_inS {σ : L2.St} {H : Hp} {te ts : TE} {x s : PySem.Str} (h : Ev te σ H (.str x)) (hs : Ev ts σ H (.str s)) (hz : x.length ≤ 100000) :
    Ev (tAndV (tOp rEq (tCB (fun xs H Q => ∃ z, xs = [V.str z] ∧ z.length ≤ sizeLine ∧ Q (.int z.length) H) (tCons te tNil)) (tC (.int 1))) (tOp rInS te ts)) σ H (.bl (inS s x)) := by
  refine ev_is (ev_andV (ev_op (ev_lenS h hz) ev_c (rv_eq rfl)) (b := inS s x) fun h1 => ?_) ?_
  · have l1 : x.length = 1 := by
      rw [int_eq] at h1
      have := of_decide_eq_true h1
      omega
    obtain ⟨c, rfl⟩ := one_sign l1
    exact ev_op h hs fun H1 e Q q => ⟨c, s, rfl, rfl, by rw [← inS_one]; exact q H1 (Ex.refl H1)⟩
  · by_cases l1 : x.length = 1
    · rw [l1]; rfl
    · rw [inS_len l1, Bool.and_false]
theorem scSmall : FnScope ["text"] ["text"] (defScope s_is_small) := ⟨rfl, rfl, rfl, by decide +kernel, rfl, by decide +kernel, by decide +kernel⟩
theorem ev_all {σ : L2.St} {H : Hp} {te : TE} {bs : List Bool} (h : EvL te σ H (bs.map V.bl)) : Ev (tCB (rAll K) (tCons te tNil)) σ H (.bl (bs.all id)) := fun H1 e Q q =>
  h H1 e _ fun p H2 _ e2 h2 => ⟨p, bs, rfl, sq_of h2, q H2 e2⟩
def spB (f : PySem.Str → Bool) : Sp := fun vs H Q _ => ∃ x : PySem.Str, vs = [.str x] ∧ x.length ≤ 1000 ∧ RetV (.bl (f x)) H Q
theorem sv_B {f : PySem.Str → Bool} {x : PySem.Str} {H : Hp} (h : x.length ≤ 1000) : SpV (spB f) [.str x] H (.bl (f x)) := fun H1 e Q q E => ⟨x, rfl, h, fun H2 e2 => q H2 e2⟩
theorem ok_is_small (W : Wd mg) {f : Addr} {fd : FuncData} (D : Dat K mg "is_small" s_is_small ["text"] f fd) : FnOk P w K mg base (L2.CX P w) 1 f fd ["text"] (spB (inS smallsS)) := by
  refine D.F.okX scSmall (fun vs H Q E h => ?_) (fun cdv A outer s H vs Q E hr h => ?_)
  · obtain ⟨x, rfl, _⟩ := h
    rfl
  · obtain ⟨x, rfl, hz, k⟩ := h
    obtain ⟨t, gs⟩ := W.small
    refine ⟨_, pss_one (ps_ret (pe_and (pe_cmpR op_eq (pe_callB call_len_str (by rfl) W.len PySem.boot_len (pa_cons (pv 0) pa_nil)) pe_int (nomark _)) (pe_one (pe_cmpR op_inS (pv 0) (pe_gs rfl gs) (by rfl))))), ?_⟩
    exact s_ret (ev_inS (ev_var rfl) ev_c (by omega)) fun H1 e => k H1 e
end
end Z
end
/-! Z2 -/
set_option linter.all false
set_option maxRecDepth 100000
set_option maxHeartbeats 4000000
noncomputable section
namespace Z
open PySem PySem.Spec PyProof.Rows L2 PySem.Froz Evl TS

/-! ### what is not walked needs no term -/
theorem pe_no {X : Cx} {e : Expr} : PE X e (fun _ _ _ => False) := ⟨fun _ _ _ _ _ _ h => h.elim⟩
theorem pt_no {X : Cx} {e : Expr} : PT X e (fun _ _ _ => False) := ⟨fun _ _ _ _ _ _ h => h.elim⟩
theorem pi_no {X : Cx} {tg e : Expr} : PI X tg e (fun _ _ _ => False) := ⟨fun _ _ _ _ _ _ h => h.elim⟩
theorem ps_no {X : Cx} {st : Stmt} : PS X st (fun _ _ _ => False) := ⟨fun _ _ _ _ _ _ h => h.elim⟩
theorem pss_no {X : Cx} {st : List Stmt} : PSs X st (fun _ _ _ => False) := ⟨fun _ _ _ _ _ _ h => h.elim⟩
abbrev tF : TS := fun _ _ _ => False


section
variable {X : Cx} {elt tg iter : Expr} {ifs : List Expr} {scope : Scope} {own : List (PySem.Str × Nat)} {pos : Pos} {wi : TI} {g : TG} {tt : TT} {te : TE}
theorem pe_l1 (hc : X.calm = true) (hN : X.N.Nodup) (hi : PI X tg iter wi) (ok : BlkOk X.N X.env.scope scope own)
    (hg : ∀ (s : Shared) (H : Hp) (C : Addr) (cl : List (PySem.Str × Addr)) (fp : List Addr), PG (X.blk s H scope (compEnvC scope cl C X.env) fp) tg g) (ht : ∀ (s : Shared) (H : Hp) (C : Addr) (cl : List (PySem.Str × Addr)) (fp : List Addr), PTs (X.blk s H scope (compEnvC scope cl C X.env) fp) ifs tt)
    (he : ∀ (s : Shared) (H : Hp) (C : Addr) (cl : List (PySem.Str × Addr)) (fp : List Addr), PE (X.blk s H scope (compEnvC scope cl C X.env) fp) elt te) (hs : ∀ x, foldedSetIterable iter X.env x = pure x := by intro _; rfl) :
    PE X (.ListComp elt [⟨tg, iter, ifs, 0⟩] scope pos) (tKc X.prog X.w .lst wi g tt te (own.map (·.2))) :=
  kc_run (kd := .lst) (xb := xnone) (Pz := fun _ => True) hc hN hi ok (fun _ _ _ z => z.elim) (fun _ _ _ _ _ _ _ _ => trivial) (fun s H C cl fp _ => hg s H C cl fp) (fun s H C cl fp _ => ht s H C cl fp) (fun s H C cl fp _ => he s H C cl fp) hs
end
/-- numbers as values -/
abbrev nv (ns : List Nat) : List V := ns.map fun (k : Nat) => V.int (k : Int)
theorem nv_get {ns : List Nat} {i : Nat} {x : V} (h : (nv ns)[i]? = some x) : i < ns.length ∧ x = .int (ns.getD i 0 : Nat) := by
  have hi := (List.getElem?_eq_some_iff.mp h).1
  rw [List.length_map] at hi
  refine ⟨hi, ?_⟩
  simp [List.getElem?_map, hi] at h
  simp [hi, h]
theorem nv_at {ns : List Nat} {k : Nat} (h : k < ns.length) : atI (nv ns) (k : Int) = some (.int (ns.getD k 0 : Nat)) := by
  rw [atI_nat]
  simp [h]
theorem nv_last {ns : List Nat} (h : 0 < ns.length) : atI (nv ns) (-1) = some (.int (ns.getD (ns.length - 1) 0 : Nat)) := by
  unfold atI ixN
  have e : ((nv ns).length : Int) = (ns.length : Int) := by simp
  rw [e, if_neg (by omega), if_pos (by omega)]
  have e2 : ((-1 : Int) + (ns.length : Int)).toNat = ns.length - 1 := by omega
  simp [e2, Nat.sub_lt h Nat.one_pos]
section
variable {P : Program} {w : World} {K : PySem.W.Frag} {mg : PySem.Str → Option Value} {base : Heap} {f f1 f2 : Addr} {fd fd1 fd2 : FuncData}
theorem ev_neg1 {σ : L2.St} {H : Hp} : Ev (tUn (rU fun i => .int (-i)) (tC (.int 1))) σ H (.int (-1)) := ev_un ev_c ru_neg
theorem ev_chain2 {σ : L2.St} {H : Hp} {ta tb tc : TE} {g g' : Int → Int → Bool} {a b c : Int} (ha : Ev ta σ H (.int a)) (hb : Ev tb σ H (.int b)) (hc : Ev tc σ H (.int c)) : Ev (tChain (rI0 fun i j => .bl (g i j)) (rI0 fun i j => .bl (g' i j)) ta tb tc) σ H (.bl (g a b && g' b c)) := fun H1 e Q q =>
  ha H1 e _ fun H2 e2 => hb H2 (e.trans e2) _ fun H3 e3 => ⟨a, b, rfl, rfl, g a b, rfl, by
    revert q
    cases g a b with
    | false => intro q; exact q H3 (e2.trans e3)
    | true => intro q; exact hc H3 ((e.trans e2).trans e3) _ fun H4 e4 => ⟨b, c, rfl, rfl, q H4 ((e2.trans e3).trans e4)⟩⟩
theorem ev_ltI {σ : L2.St} {H : Hp} {ta tb : TE} {g : Int → Int → Bool} {a b : Int} (ha : Ev ta σ H (.int a)) (hb : Ev tb σ H (.int b)) : EvT (tTest (tOp (rI0 fun i j => .bl (g i j)) ta tb)) σ H (g a b) := et_test (ev_op ha hb rv_I0)
theorem ev_eqI {σ : L2.St} {H : Hp} {te tb : TE} {i j : Int} (h : Ev te σ H (.int i)) (hb : Ev tb σ H (.int j)) : EvT (tTest (tOp rEq te tb)) σ H (decide (i = j)) := et_test (ev_is (ev_op h hb (rv_eq rfl)) (by rw [int_eq]))
theorem ev_neI {σ : L2.St} {H : Hp} {te tb : TE} {i j : Int} (h : Ev te σ H (.int i)) (hb : Ev tb σ H (.int j)) : EvT (tTest (tOp rNe te tb)) σ H (!decide (i = j)) := et_test (ev_is (ev_op h hb (rv_ne rfl)) (by rw [int_eq]))
/-- len(list), as an argument and alone -/
theorem ea_lenL {σ : L2.St} {H : Hp} {te : TE} {a : Addr} {xs : List V} {n : Int} (h : Ev te σ H (.ref a)) (hx : SqL K H a xs) (e : (xs.length : Int) = n) : EvA (tCons (tCB (rLenS K) (tCons te tNil)) tNil) σ H [.int n] := ea_cons (ev_is (ev_len h hx) (by rw [e])) ea_nil
theorem ev_lenN' {σ : L2.St} {H : Hp} {te : TE} {a : Addr} {ns : List Nat} (h : Ev te σ H (.ref a)) (hx : SqL K H a (nv ns)) : Ev (tCB (rLenS K) (tCons te tNil)) σ H (.int (ns.length : Int)) := ev_is (ev_len h hx) (by simp)
theorem ev_atN {σ : L2.St} {H : Hp} {ta tb : TE} {a : Addr} {ns : List Nat} {k : Nat} (h : Ev ta σ H (.ref a)) (hi : Ev tb σ H (.int (k : Int))) (hx : SqL K H a (nv ns)) (hk : k < ns.length) : Ev (tOp (rIxL K) ta tb) σ H (.int (ns.getD k 0 : Nat)) := ev_op h hi (rv_ixL hx (nv_at hk))

/-! ### check_steps -/
abbrev s_check_steps : Stmt := top 28
def spSteps : Sp := fun vs H Q _ => ∃ m M : Int, vs = [.int m, .int M] ∧ 1 ≤ m ∧ m ≤ M ∧ RetV .non H Q
theorem scSteps : FnScope ["many", "most"] ["many", "most"] (defScope s_check_steps) := ⟨rfl, rfl, rfl, by decide +kernel, rfl, by decide +kernel, by decide +kernel⟩
theorem ok_check_steps (D : Dat K mg "check_steps" s_check_steps ["many", "most"] f fd) : FnOk P w K mg base (L2.CX P w) 1 f fd ["many", "most"] spSteps := by
  refine D.F.okX scSteps (fun vs H Q E h => ?_) (fun cdv A outer s H vs Q E hr h => ?_)
  · obtain ⟨m, M, rfl, _⟩ := h
    rfl
  · obtain ⟨m, M, rfl, h1, h2, k⟩ := h
    refine ⟨_, pss_one (ps_if (pt_not (pt_chain op_le op_le pe_int (pv 0) (pv 1))) pss_no pss_nil), ?_⟩
    refine s_when (b := false) (et_is (et_not (et_test (ev_chain2 ev_c (ev_var rfl) (ev_var rfl)))) (by simp [h1, h2])) (fun h => nomatch h) fun _ H1 e => k H1 e
/-! ### still_table -/
abbrev s_still : Stmt := top 33
def spStill : Sp := fun vs H Q _ => ∃ n : Nat, vs = [.int (n : Int)] ∧ n ≤ 1000 ∧ RetL (nv (List.range n)) H Q
theorem scStill : FnScope ["steps"] ["steps"] (defScope s_still) := ⟨rfl, rfl, rfl, by decide +kernel, rfl, by decide +kernel, by decide +kernel⟩
theorem rgV_nat {n : Nat} : rgV 0 (n : Int) = nv (List.range n) := by
  unfold rgV
  rw [show ((n : Int) - 0).toNat = n by omega]
  refine List.map_congr_left fun k _ => ?_
  rw [Int.zero_add]
theorem el_rg {σ : L2.St} {H : Hp} {te : TE} {n : Nat} (h : Ev te σ H (.int (n : Int))) (hn : n ≤ 100000) : EvL (tLstRg (tRg1 te)) σ H (nv (List.range n)) := fun H1 e Q q => h H1 e _ fun H2 e2 =>
  ⟨n, rfl, .of_le (by omega) (by omega) (by omega) (by omega), fun p hp => q p _ (fresh_back e2 hp) (e2.trans (Ex.new hp)) (by rw [upd_same, rgV_nat])⟩
theorem ok_still (W : Wd mg) (D : Dat K mg "still_table" s_still ["steps"] f fd) : FnOk P w K mg base (L2.CX P w) 1 f fd ["steps"] spStill := by
  refine D.F.okX scStill (fun vs H Q E h => ?_) (fun cdv A outer s H vs Q E hr h => ?_)
  · obtain ⟨n, rfl, _⟩ := h
    rfl
  · obtain ⟨n, rfl, hn, k⟩ := h
    refine ⟨_, pss_one (ps_ret (pe_listRg rfl rfl W.list (prg_1 rfl W.range (pv 0)))), ?_⟩
    exact s_retL (el_rg (ev_var rfl) (by omega)) fun p H2 hp e2 h2 => k.go (Ex.refl _) hp e2 h2
/-! ### put_on -/
def compT (o i : List Nat) : List Nat := i.map fun k => o.getD k 0
abbrev s_put_on : Stmt := top 36
def spPut (K : PySem.W.Frag) : Sp := fun vs H Q _ => ∃ (a b : Addr) (o i : List Nat), vs = [.ref a, .ref b] ∧ SqL K H a (nv o) ∧ SqL K H b (nv i) ∧ i.length ≤ 1000 ∧ (∀ k ∈ i, k < o.length) ∧ RetL (nv (compT o i)) H Q
theorem scPut : FnScope ["outer", "inner", "shown"] ["outer", "inner"] (defScope s_put_on) := ⟨rfl, rfl, rfl, by decide +kernel, rfl, by decide +kernel, by decide +kernel⟩
/-- [outer[shown] for shown in inner] -/
theorem el_put {σ : L2.St} {H : Hp} {to ti : TE} {a b : Addr} {o i : List Nat} {j : Nat} {vs : List Nat} (hi : Ev ti σ H (.ref b)) (ho : ∀ (x : V) H1, Ex H H1 → Ev to ((wipe σ vs).set j (some x)) H1 (.ref a)) (ha : SqL K H a (nv o)) (hb : SqL K H b (nv i)) (hz : i.length ≤ 3000) (hk : ∀ k ∈ i, k < o.length)
    (hw : ∀ x, wipe ((wipe σ vs).set j (some x)) vs = wipe σ vs) (hv : ∀ x, ((wipe σ vs).set j (some x))[j]? = some (some x)) : EvL (tKc P w .lst (iList K ti) (gName j) tYes (tOp (rIxL K) to (tVar j)) vs) σ H (nv (compT o i)) := by
  refine (ek_kc .lst (nv (compT o i)) (ei_list hi hb) (by simp [compT]) (by rw [List.length_map]; omega) (fun _ _ => trivial) hw fun m z y H1 e hz1 hy => ?_).lst
  obtain ⟨hm, rfl⟩ := nv_get hz1
  obtain ⟨hm2, rfl⟩ := nv_get hy
  have hin : i.getD m 0 ∈ i := by
    rw [List.getD_eq_getElem?_getD, List.getElem?_eq_getElem hm]; exact List.getElem_mem _
  refine ev_is (ev_atN (ns := o) (k := i.getD m 0) (ho _ H1 e) (ev_var (hv _)) (ex_l e ha) (hk _ hin)) ?_
  simp [compT, List.getD_eq_getElem?_getD, hm]
theorem ok_put_on (D : Dat K mg "put_on" s_put_on ["outer", "inner"] f fd) : FnOk P w K mg base (L2.CX P w) 1 f fd ["outer", "inner"] (spPut K) := by
  refine D.F.okX scPut (fun vs H Q E h => ?_) (fun cdv A outer s H vs Q E hr h => ?_)
  · obtain ⟨a, b, o, i, rfl, _⟩ := h
    rfl
  · obtain ⟨a, b, o, i, rfl, ha, hb, hz, hk, k⟩ := h
    refine ⟨_, pss_one (ps_ret (pe_l1 (own := [("shown", 2)]) (g := gName 2) (te := tOp (rIxL K) (tVar 0) (tVar 2)) rfl scPut.nd (pi_list (pv 1)) (blkOk_by (N := ["outer", "inner", "shown"]) (sc := defScope s_put_on) (by decide +kernel))
        (fun _ _ _ _ _ => pg_name (i := 2) scPut.nd rfl (Or.inl rfl)) (fun _ _ _ _ _ => pts_nil) (fun _ _ _ _ _ => pe_ix ix_list (pv 0) (pv 2) (fun _ _ => rfl)))), ?_⟩
    exact s_retL (el_put (o := o) (i := i) (ev_var rfl) (fun _ _ _ => ev_var rfl) ha hb (by omega) hk (fun _ => rfl) fun _ => rfl) fun p H2 hp e2 h2 => k.go (Ex.refl _) hp e2 h2
/-! ### threshold -/
def thr (ns : List Nat) (m : Nat) : Nat := ns.findIdx fun x => decide (m ≤ x)
/-- for at, shown in enumerate(list) -/
theorem s_enum {σ : L2.St} {H H1 : Hp} {ta : TA} {tb : TS} {D : Ends} {a : Addr} {xs : List V} {i j : Nat} (h : EvA ta σ H [.ref a]) (hx : SqL K H a xs) (e1 : Ex H H1) (Pv : Nat → L2.St → Prop) (h0 : Pv 0 σ)
    (hs : ∀ k x σ' H', Ex H1 H' → xs[k]? = some x → Pv k σ' → tb { D with nx := fun σ2 H2 => Ex H1 H2 ∧ Pv (k + 1) σ2, ct := fun σ2 H2 => Ex H1 H2 ∧ Pv (k + 1) σ2, bk := D.nx } ((σ'.set i (some (.int (k : Nat)))).set j (some x)) H')
    (hd : ∀ σ' H', Ex H1 H' → Pv xs.length σ' → D.nx σ' H') : tFor (iEnum K ta) (gTup K 2 (gCons (gName i) (gCons (gName j) gNil))) tb D σ H1 := h H1 e1 _ fun H2 e2 => by
  refine ⟨a, xs, rfl, ex_l (e1.trans e2) hx, ?_⟩
  refine ⟨fun k m σ' H' => k ≤ xs.length ∧ m = xs.length - k ∧ Ex H1 H' ∧ Pv k σ', ⟨xs.length, Nat.zero_le _, by simp, e2, h0⟩, ?_⟩
  rintro k m σ' H' ⟨hk, rfl, e, p⟩
  have hl : SqL K H' a xs := ex_l (e1.trans e) hx
  cases q : xs[k]? with
  | some x =>
    have hlt := (List.getElem?_eq_some_iff.mp q).1
    refine .inr ⟨⟨xs, x, hl, q⟩, fun σ2 H2 => Ex H1 H2 ∧ Pv (k + 1) σ2, fun σ2 H2 p' => ⟨xs.length - (k + 1), by omega, hlt, rfl, p'⟩, fun y H3 hy => ?_⟩
    obtain ⟨T, z, rfl, hT, rfl, hz⟩ := hy
    have hzx := hz xs hl
    rw [q] at hzx
    cases hzx
    have new : Ex H' (upd H' T (.tup [.int (k : Nat), x])) := Ex.new hT
    exact ⟨T, _, rfl, st_of upd_same, rfl, _, _, rfl, _, _, rfl, rfl, hs k x σ' _ (e.trans new) q p⟩
  | none =>
    have z : k = xs.length := Nat.le_antisymm hk (List.getElem?_eq_none_iff.mp q)
    subst z
    exact .inl ⟨⟨xs, hl, Nat.le_refl _⟩, hd σ' H' e p⟩
end
end Z
end
/-! Z3 -/
set_option linter.all false
set_option maxRecDepth 100000
set_option maxHeartbeats 4000000
noncomputable section
namespace Z
open PySem PySem.Spec PyProof.Rows L2 PySem.Froz Evl TS

section
variable {P : Program} {w : World} {K : PySem.W.Frag} {mg : PySem.Str → Option Value} {base : Heap} {f f1 f2 : Addr} {fd fd1 fd2 : FuncData}
theorem thr_at : ∀ {ns : List Nat} {m k : Nat}, k < ns.length → (∀ j, j < k → ns.getD j 0 < m) → m ≤ ns.getD k 0 → thr ns m = k
  | [], m, k, h, _, _ => absurd h (Nat.not_lt_zero k)
  | x :: ns, m, 0, _, _, h => by
    unfold thr
    simp only [List.getD_cons_zero] at h
    simp [List.findIdx_cons, h]
  | x :: ns, m, k + 1, h, g, h2 => by
    have g0 := g 0 (by omega)
    simp only [List.getD_cons_zero] at g0
    have ih := thr_at (ns := ns) (m := m) (k := k) (by simpa using h) (fun j hj => by simpa using g (j + 1) (by omega)) (by simpa using h2)
    unfold thr at ih ⊢
    have n0 : ¬ m ≤ x := by omega
    simp [List.findIdx_cons, n0, ih]
theorem thr_end : ∀ {ns : List Nat} {m : Nat}, (∀ j, j < ns.length → ns.getD j 0 < m) → thr ns m = ns.length
  | [], m, _ => rfl
  | x :: ns, m, g => by
    have g0 := g 0 (by simp)
    simp only [List.getD_cons_zero] at g0
    have ih := thr_end (ns := ns) (m := m) (fun j hj => by simpa using g (j + 1) (by simpa using hj))
    unfold thr at ih ⊢
    have n0 : ¬ m ≤ x := by omega
    simp [List.findIdx_cons, n0, ih]
abbrev s_thr : Stmt := top 34
abbrev nThr : List PySem.Str := ["table", "least", "at", "shown"]
def spThr (K : PySem.W.Frag) : Sp := fun vs H Q _ => ∃ (a : Addr) (ns : List Nat) (m : Nat), vs = [.ref a, .int (m : Int)] ∧ SqL K H a (nv ns) ∧ ns.length ≤ 1000 ∧ RetV (.int (thr ns m : Nat)) H Q
theorem scThr : FnScope nThr ["table", "least"] (defScope s_thr) := ⟨rfl, rfl, rfl, by decide +kernel, rfl, by decide +kernel, by decide +kernel⟩
theorem ok_thr (W : Wd mg) (D : Dat K mg "threshold" s_thr ["table", "least"] f fd) : FnOk P w K mg base (L2.CX P w) 1 f fd ["table", "least"] (spThr K) := by
  refine D.F.okX scThr (fun vs H Q E h => ?_) (fun cdv A outer s H vs Q E hr h => ?_)
  · obtain ⟨a, ns, m, rfl, _⟩ := h
    rfl
  · obtain ⟨a, ns, m, rfl, ha, hz, k⟩ := h
    refine ⟨_, pss_cons (ps_for (passes_of rfl) rfl (pi_enum rfl W.enum (pa_cons (pv 0) pa_nil)) (pg_tup rfl (pgs_cons (pg_name (i := 2) scThr.nd rfl (Or.inl rfl)) (pgs_cons (pg_name (i := 3) scThr.nd rfl (Or.inl rfl)) pgs_nil)))
        (pss_one (ps_if (pt_cmpR op_ge (pv 3) (pv 1) (nomark _)) (pss_one (ps_ret (pv 2))) pss_nil)))
      (pss_one (ps_ret (pe_callB call_len_seq (by rfl) W.len PySem.boot_len (pa_cons (pv 0) pa_nil)))), ?_⟩
    refine s_enum (i := 2) (j := 3) (H := H) (K := K) (D := { (_ : Ends) with nx := _ }) (ea_cons (ev_var rfl) ea_nil) ha (Ex.refl H) (fun i σ' => (∃ u v, σ' = [some (.ref a), some (.int (m : Int)), u, v]) ∧ ∀ j, j < i → ns.getD j 0 < m) ⟨⟨_, _, rfl⟩, fun j hj => absurd hj (Nat.not_lt_zero j)⟩ ?_ ?_
    · rintro i x σ' H' e hx ⟨⟨u, v, rfl⟩, g⟩
      obtain ⟨hi, rfl⟩ := nv_get hx
      refine s_when (ev_ltI (g := fun i j => decide (i ≥ j)) (ev_var rfl) (ev_var rfl)) (fun hb H2 e2 => ?_) fun hb H2 e2 => ?_
      · have hge : m ≤ ns.getD i 0 := by have := of_decide_eq_true hb; omega
        refine s_ret (ev_var rfl) fun H3 e3 => ?_
        rw [← thr_at hi g hge]
        exact k H3 ((e.trans e2).trans e3)
      · have hlt : ns.getD i 0 < m := by have := of_decide_eq_false hb; omega
        exact ⟨e.trans e2, ⟨_, _, rfl⟩, fun j hj => (Nat.lt_succ_iff_lt_or_eq.mp hj).elim (g j) fun z => z ▸ hlt⟩
    · rintro σ' H' e ⟨⟨u, v, rfl⟩, g⟩
      rw [List.length_map] at g
      refine s_ret (ev_lenN' (ns := ns) (ev_var rfl) (ex_l e ha)) fun H3 e3 => ?_
      rw [← thr_end g]
      exact k H3 (e.trans e3)
/-! ### back_table -/
def backT (ns : List Nat) : List Nat := (List.range ns.length).map fun c => thr ns (c + 1) - 1
abbrev s_back : Stmt := top 35
def spBack (K : PySem.W.Frag) : Sp := fun vs H Q _ => ∃ (a : Addr) (ns : List Nat), vs = [.ref a] ∧ SqL K H a (nv ns) ∧ ns.length ≤ 1000 ∧ 0 < ns.length ∧ ns.getD 0 0 = 0 ∧ RetL (nv (backT ns)) H Q
theorem scBack : FnScope ["table", "at"] ["table"] (defScope s_back) := ⟨rfl, rfl, rfl, by decide +kernel, rfl, by decide +kernel, by decide +kernel⟩
theorem thr_pos {ns : List Nat} {c : Nat} (h : 0 < ns.length) (h0 : ns.getD 0 0 = 0) : 1 ≤ thr ns (c + 1) := by
  cases ns with
  | nil => exact absurd h (Nat.lt_irrefl 0)
  | cons x ns =>
    simp only [List.getD_cons_zero] at h0
    subst h0
    unfold thr
    have n0 : ¬ c + 1 ≤ 0 := by omega
    simp [List.findIdx_cons, n0]
theorem sv_thr {a : Addr} {ns : List Nat} {m : Nat} {H : Hp} (ha : SqL K H a (nv ns)) (hz : ns.length ≤ 1000) : SpV (spThr K) [.ref a, .int (m : Int)] H (.int (thr ns m : Nat)) := fun H1 e Q q E => ⟨a, ns, m, rfl, ex_l e ha, hz, fun H2 e2 => q H2 e2⟩
theorem ok_back (W : Wd mg) (D : Dat K mg "back_table" s_back ["table"] f fd) (D1 : Dat K mg "threshold" s_thr ["table", "least"] f1 fd1) (G1 : FnOk P w K mg base (L2.CX P w) 1 f1 fd1 ["table", "least"] (spThr K)) : FnOk P w K mg base (L2.CX P w) 2 f fd ["table"] (spBack K) := by
  refine D.F.okX scBack (fun vs H Q E h => ?_) (fun cdv A outer s H vs Q E hr h => ?_)
  · obtain ⟨a, ns, rfl, _⟩ := h
    rfl
  · obtain ⟨a, ns, rfl, ha, hz, h0, hg, k⟩ := h
    refine ⟨_, pss_cons (ps_if (pt_cmpR op_ne (pe_ix ix_list (pv 0) pe_int (fun _ _ => rfl)) pe_int (nomark _)) pss_no pss_nil)
      (pss_one (ps_ret (pe_l1 (own := [("at", 1)]) (g := gName 1) (te := tOp (rI0 fun i j => .int (i - j)) (tCall (spThr K) [] E0 (tCons (tVar 0) (tCons (tOp (rI0 fun i j => .int (i + j)) (tVar 1) (tC (.int 1))) tNil))) (tC (.int 1))) rfl scBack.nd (pi_range1 rfl W.range (pa_cons (pe_callB call_len_seq (by rfl) W.len PySem.boot_len (pa_cons (pv 0) pa_nil)) pa_nil)) (blkOk_by (N := ["table", "at"]) (sc := defScope s_back) (by decide +kernel))
        (fun _ _ _ _ _ => pg_name (i := 1) scBack.nd rfl (Or.inl rfl)) (fun _ _ _ _ _ => pts_nil) (fun _ _ _ _ _ => pe_op op_sub (pe_call G1 hr rfl D1.g D1.k D1.b .nil pas0 (pa_cons (pv 0) (pa_cons (pe_op op_add (pv 1) pe_int) pa_nil))) pe_int)))), ?_⟩
    refine q_when (b := false) (et_is (ev_neI (ev_atN (ns := ns) (k := 0) (ev_var rfl) ev_c ha h0) ev_c) (by rw [hg]; rfl)) (fun h => nomatch h) fun _ H1 e => ?_
    have ha1 := ex_l e ha
    refine s_retL (xs := nv (backT ns)) ?_ fun p H2 hp e2 h2 => k.go e hp e2 h2
    refine (ek_kc .lst (nv (backT ns)) (ei_rng1 (ea_lenL (n := (ns.length : Int)) (ev_var rfl) ha1 (by simp)) (by omega) (by omega)) (by simp [backT, nums]) (by rw [nums_len]; omega) (fun _ _ => trivial) (fun _ => rfl) fun i z y H3 e3 hz1 hy => ?_).lst
    obtain ⟨hi, rfl⟩ := nums_at hz1
    obtain ⟨hi2, rfl⟩ := nv_get hy
    have hin : i < ns.length := by omega
    refine ev_is (ev_op (ev_call (z := .int (thr ns (i + 1) : Nat)) (vs := [.ref a, .int ((i + 1 : Nat) : Int)]) (ea_cons (ev_var rfl) (ea_cons (ev_is (ev_op (ev_var rfl) ev_c rv_I0) (by simp)) ea_nil)) (sv_thr (ex_l e3 ha1) hz)) ev_c rv_I0) ?_
    have hp := thr_pos (c := i) h0 hg
    have eb : (backT ns).getD i 0 = thr ns (i + 1) - 1 := by simp [backT, List.getD_eq_getElem?_getD, hin]
    rw [eb]
    congr 1
    omega
/-! ### rising -/
structure Ris (ns : List Nat) : Prop where
  pos : 0 < ns.length
  up : ∀ i, i + 1 < ns.length → ns.getD i 0 ≤ ns.getD (i + 1) 0
  lt : ∀ i, i < ns.length → ns.getD i 0 < ns.length
abbrev s_rising : Stmt := top 32
abbrev nRis : List PySem.Str := ["table", "many", "at"]
def spRis (K : PySem.W.Frag) : Sp := fun vs H Q _ => ∃ (a : Addr) (ns : List Nat), vs = [.ref a] ∧ SqL K H a (nv ns) ∧ ns.length ≤ 1000 ∧ Ris ns ∧ RetV (.bl true) H Q
theorem scRis : FnScope nRis ["table"] (defScope s_rising) := ⟨rfl, rfl, rfl, by decide +kernel, rfl, by decide +kernel, by decide +kernel⟩
theorem ok_rising (W : Wd mg) (D : Dat K mg "rising" s_rising ["table"] f fd) : FnOk P w K mg base (L2.CX P w) 1 f fd ["table"] (spRis K) := by
  refine D.F.okX scRis (fun vs H Q E h => ?_) (fun cdv A outer s H vs Q E hr h => ?_)
  · obtain ⟨a, ns, rfl, _⟩ := h
    rfl
  · obtain ⟨a, ns, rfl, ha, hz, R, k⟩ := h
    refine ⟨_, pss_cons (ps_set (i := 1) scRis.nd rfl (Or.inl rfl) (pe_callB call_len_seq (by rfl) W.len PySem.boot_len (pa_cons (pv 0) pa_nil)))
      (pss_cons (ps_if (PW.pt (pw_or (pt_cmpR op_eq (pv 1) pe_int (nomark _)) (pw_or (pt_cmpR op_lt (pe_ix ix_list (pv 0) pe_int (fun _ _ => rfl)) pe_int (nomark _)) (pw_or1 (pt_cmpR op_ge (pe_ix ix_list (pv 0) (pe_un un_neg pe_int) (fun _ _ => rfl)) (pv 1) (nomark _)))))) pss_no pss_nil)
      (pss_one (ps_ret (pe_callB (cr_all rfl) (by rfl) W.all boot_all (pa_cons (pe_l1 (own := [("at", 2)]) (g := gName 2) (te := tOp (rI0 fun i j => .bl (decide (i ≤ j))) (tOp (rIxL K) (tVar 0) (tVar 2)) (tOp (rIxL K) (tVar 0) (tOp (rI0 fun i j => .int (i + j)) (tVar 2) (tC (.int 1))))) rfl scRis.nd (pi_range1 rfl W.range (pa_cons (pe_op op_sub (pv 1) pe_int) pa_nil)) (blkOk_by (N := nRis) (sc := defScope s_rising) (by decide +kernel))
        (fun _ _ _ _ _ => pg_name (i := 2) scRis.nd rfl (Or.inl rfl)) (fun _ _ _ _ _ => pts_nil) (fun _ _ _ _ _ => pe_cmpR op_le (pe_ix ix_list (pv 0) (pv 2) (fun _ _ => rfl)) (pe_ix ix_list (pv 0) (pe_op op_add (pv 2) pe_int) (fun _ _ => rfl)) (nomark _))) pa_nil))))), ?_⟩
    have hp := R.pos
    refine q_asg (ev_lenN' (ns := ns) (ev_var rfl) ha) fun H1 e1 => ?_
    have ha1 := ex_l e1 ha
    refine q_when (b := false) (et_is (et_or (ev_eqI (ev_var rfl) ev_c) fun _ => et_or (ev_ltI (g := fun i j => decide (i < j)) (ev_atN (ns := ns) (k := 0) (ev_var rfl) ev_c ha1 hp) ev_c) fun _ => ev_ltI (g := fun i j => decide (i ≥ j)) (ev_op (ev_var rfl) ev_neg1 (rv_ixL ha1 (nv_last hp))) (ev_var rfl)) ?_) (fun h => nomatch h) fun _ H2 e2 => ?_
    · have := R.lt (ns.length - 1) (by omega)
      have h1 : ¬ (ns.length : Int) = 0 := by omega
      have h2 : ¬ ((ns.getD 0 0 : Nat) : Int) < 0 := by omega
      have h3 : ¬ ((ns.getD (ns.length - 1) 0 : Nat) : Int) ≥ (ns.length : Int) := by omega
      rw [decide_eq_false h1, decide_eq_false h2, decide_eq_false h3]; rfl
    · have ha2 := ex_l e2 ha1
      refine s_ret (v := .bl true) ?_ fun H3 e3 => k H3 ((e1.trans e2).trans e3)
      refine ev_is (ev_all (bs := (List.range (ns.length - 1)).map fun _ => true) ?_) (by simp)
      rw [List.map_map]
      refine (ek_kc .lst _ (ei_rng1 (n := ((ns.length - 1 : Nat) : Int)) (ea_cons (ev_is (ev_op (ev_var rfl) ev_c rv_I0) (by congr 1; omega)) ea_nil) (by omega) (by omega)) (by simp [nums]) (by rw [nums_len]; omega) (fun _ _ => trivial) (fun _ => rfl) fun i z y H3 e3 hz1 hy => ?_).lst
      obtain ⟨hi, rfl⟩ := nums_at hz1
      have hy' : y = .bl true := by
        rw [List.getElem?_map] at hy
        cases q : (List.range (ns.length - 1))[i]? with
        | none => rw [q] at hy; cases hy
        | some c => rw [q] at hy; cases hy; rfl
      subst hy'
      have h1 : i + 1 < ns.length := by omega
      have ha3 := ex_l e3 ha2
      refine ev_is (ev_op (ev_atN (ns := ns) (k := i) (ev_var rfl) (ev_is (ev_var rfl) (by simp)) ha3 (by omega)) (ev_atN (ns := ns) (k := i + 1) (ev_var rfl) (ev_is (ev_op (ev_var rfl) ev_c rv_I0) (by simp)) ha3 h1) rv_I0) ?_
      have := R.up i h1
      congr 1
      exact decide_eq_true (by omega)
end
end Z
end
/-! Z4 -/
set_option linter.all false
set_option maxRecDepth 100000
set_option maxHeartbeats 4000000
noncomputable section
namespace Z
open PySem PySem.Spec PyProof.Rows L2 PySem.Froz Evl TS GenW

/-! ### all rising tables, one behind another -/
def lastUp (n : Nat) (T : List Nat) : Nat := ((List.range n).filter fun p => decide (T.getD p 0 < n - 1)).getLastD 0
def nextT (n : Nat) (T : List Nat) : List Nat := T.take (lastUp n T) ++ List.replicate (n - lastUp n T) (T.getD (lastUp n T) 0 + 1)
/-- the rows with one step more -/
def longer (n : Nat) (rows : List (List Nat)) : List (List Nat) := rows.flatMap fun r => (List.range (n - r.getLastD 0)).map fun j => r ++ [r.getLastD 0 + j]
def risesK (n : Nat) : Nat → List (List Nat)
  | 0 => [[]]
  | k + 1 => longer n (risesK n k)
def rises (n : Nat) : List (List Nat) := risesK n n
def goodWalk (n : Nat) : Bool :=
  let W := rises n
  W.head? == some (List.replicate n 0) && W.length ≤ 200 && (W.all fun t => t.length == n) && (List.range W.length).all fun i =>
    if i + 1 < W.length then ((W.getD i []).getD 0 0 < n - 1) && ((lastUp n (W.getD i [])) < n) && (W.getD (i + 1) [] == nextT n (W.getD i [])) && ((W.getD i []).getD (lastUp n (W.getD i [])) 0 < n - 1) else !((W.getD i []).getD 0 0 < n - 1)
theorem walk_good : ∀ n, 1 ≤ n → n ≤ 5 → goodWalk n = true := fun n h1 h5 => by
  match n, h1, h5 with
  | 1, _, _ => decide +kernel
  | 2, _, _ => decide +kernel
  | 3, _, _ => decide +kernel
  | 4, _, _ => decide +kernel
  | 5, _, _ => decide +kernel
structure Walk (n : Nat) : Prop where
  head : (rises n).getD 0 [] = List.replicate n 0
  pos : 0 < (rises n).length
  small : (rises n).length ≤ 200
  len : ∀ i, i < (rises n).length → ((rises n).getD i []).length = n
  go : ∀ i, i + 1 < (rises n).length → ((rises n).getD i []).getD 0 0 < n - 1 ∧ lastUp n ((rises n).getD i []) < n ∧ (rises n).getD (i + 1) [] = nextT n ((rises n).getD i []) ∧ ((rises n).getD i []).getD (lastUp n ((rises n).getD i [])) 0 < n - 1
  stop : ∀ i, i + 1 = (rises n).length → ¬ ((rises n).getD i []).getD 0 0 < n - 1
theorem getD_mem {α : Type} {d : α} {xs : List α} {i : Nat} (h : i < xs.length) : xs.getD i d ∈ xs := by
  rw [List.getD_eq_getElem?_getD, List.getElem?_eq_getElem h]; exact List.getElem_mem _
theorem walk_of {n : Nat} (h1 : 1 ≤ n) (h5 : n ≤ 5) : Walk n := by
  have g := walk_good n h1 h5
  unfold goodWalk at g
  simp only [Bool.and_eq_true, List.all_eq_true, beq_iff_eq, decide_eq_true_eq] at g
  obtain ⟨⟨⟨g1, g2⟩, g3⟩, g4⟩ := g
  have gp : 0 < (rises n).length := by
    cases h : rises n with
    | nil => rw [h] at g1; cases g1
    | cons a b => simp
  refine ⟨?_, gp, g2, fun i hi => g3 _ (getD_mem hi), fun i hi => ?_, fun i hi => ?_⟩
  · cases h : rises n with
    | nil => rw [h] at gp; exact absurd gp (Nat.lt_irrefl 0)
    | cons a b => rw [h] at g1; simpa using g1
  · have z := g4 i (List.mem_range.mpr (by omega))
    rw [if_pos hi] at z
    simp only [Bool.and_eq_true, beq_iff_eq, decide_eq_true_eq] at z
    exact ⟨z.1.1.1, z.1.1.2, z.1.2, z.2⟩
  · have z := g4 i (List.mem_range.mpr (by omega))
    rw [if_neg (by omega)] at z
    simpa using z
/-- what the list's items stand for -/
def Rows (H : Hp) (ys : List V) (W : List (List Nat)) : Prop := ys.length = W.length ∧ ∀ i, i < W.length → ∃ p, ys[i]? = some (.ref p) ∧ H p = some (.lst (nv (W.getD i [])))
theorem Rows.mono {H H' : Hp} {ys : List V} {W : List (List Nat)} (h : Rows H ys W) (e : Ex H H') : Rows H' ys W := ⟨h.1, fun i hi => let ⟨p, a, b⟩ := h.2 i hi; ⟨p, a, e _ _ b⟩⟩
theorem Rows.nil {H : Hp} : Rows H [] [] := ⟨rfl, fun i hi => absurd hi (Nat.not_lt_zero i)⟩
theorem Rows.snoc {H : Hp} {ys : List V} {W : List (List Nat)} {p : Addr} {T : List Nat} (h : Rows H ys W) (hp : H p = some (.lst (nv T))) : Rows H (ys ++ [.ref p]) (W ++ [T]) := by
  refine ⟨by simp [h.1], fun i hi => ?_⟩
  rw [List.length_append, List.length_singleton] at hi
  by_cases hl : i < W.length
  · obtain ⟨q, a, b⟩ := h.2 i hl
    refine ⟨q, by rw [List.getElem?_append_left (by rw [h.1]; exact hl)]; exact a, ?_⟩
    rw [List.getD_eq_getElem?_getD, List.getElem?_append_left hl, ← List.getD_eq_getElem?_getD]; exact b
  · have e : i = W.length := by omega
    subst e
    refine ⟨p, by rw [List.getElem?_append_right (by rw [h.1]; exact Nat.le_refl _), h.1]; simp, ?_⟩
    rw [List.getD_eq_getElem?_getD, List.getElem?_append_right (Nat.le_refl _)]
    simpa using hp
theorem take_next {W : List (List Nat)} {i : Nat} (h : i < W.length) : W.take (i + 1) = W.take i ++ [W.getD i []] := by
  rw [List.take_add_one, List.getElem?_eq_getElem h, List.getD_eq_getElem?_getD, List.getElem?_eq_getElem h]; rfl

section
variable {σ : L2.St} {H : Hp} {ta tb te : TE} {K : PySem.W.Frag} {P : Program} {w : World}
theorem el_cat {xs ys : List V} (ha : EvL ta σ H xs) (hb : EvL tb σ H ys) (hz : xs.length + ys.length ≤ 100000) : EvL (tOp rCat ta tb) σ H (xs ++ ys) := fun H1 e Q q => ha H1 e _ fun p H2 hp e2 h2 => hb H2 (e.trans e2) _ fun r H3 hr e3 h3 =>
  ⟨p, r, xs, ys, rfl, rfl, e3 p _ h2, h3, sz_of hz, fun l hl => q l _ (fresh_back (e2.trans e3) hl) ((e2.trans e3).trans (Ex.new hl)) upd_same⟩
theorem flat_rep (v : V) : ∀ k, (List.replicate k [v]).flatten = List.replicate k v
  | 0 => rfl
  | k + 1 => by rw [List.replicate_succ, List.flatten_cons, flat_rep v k]; rfl
theorem el_rep1 {v : V} {k : Nat} (ha : EvL ta σ H [v]) (hb : Ev tb σ H (.int (k : Int))) (hz : k ≤ 100000) : EvL (tOp rRep ta tb) σ H (List.replicate k v) := fun H1 e Q q => ha H1 e _ fun p H2 hp e2 h2 => hb H2 (e.trans e2) _ fun H3 e3 =>
  ⟨p, k, [v], rfl, rfl, e3 p _ h2, by omega, by omega, by rw [Int.toNat_natCast, List.length_singleton, Nat.one_mul]; exact sz_of hz, fun l hl => q l _ (fresh_back (e2.trans e3) hl) ((e2.trans e3).trans (Ex.new hl)) (by
    rw [upd_same, Int.toNat_natCast, flat_rep])⟩
/-- max of a new list of numbers of which m is the greatest -/
theorem ev_maxN {ns : List Nat} {m : Nat} (ha : EvL ta σ H (nv ns)) (hm : m ∈ ns) (hg : ∀ y ∈ ns, y ≤ m) : Ev (tCB (rMax K) (tCons ta tNil)) σ H (.int (m : Int)) := fun H1 e Q q => ha H1 e _ fun p H2 hp e2 h2 =>
  ⟨p, ns.map fun (k : Nat) => (k : Int), rfl, by rw [List.map_map]; exact sq_of h2, by rw [List.length_map]; exact List.length_pos_of_mem hm, fun M hM hMg => by
    obtain ⟨k, hk, rfl⟩ := List.mem_map.mp hM
    have h1 := hMg _ (List.mem_map.mpr ⟨m, hm, rfl⟩)
    have h2' := hg k hk
    have e3 : k = m := by omega
    rw [e3]
    exact q H2 e2⟩
theorem el_litN {te : TE} {v : V} (h : Ev te σ H v) : EvL (tLst (tCons te tNil)) σ H [v] := el_lst (ea_cons h ea_nil) (by simp)
theorem cutV_pre {xs : List V} {k : Nat} (h : k ≤ xs.length) : cutV xs none (some (k : Int)) = xs.take k := by
  unfold cutV
  have s0 : HT.sIx xs.length 0 none = 0 := rfl
  have s1 : HT.sIx xs.length xs.length (some (k : Int)) = k := by
    unfold HT.sIx
    simp only
    rw [if_neg (by omega)]
    omega
  rw [s0, s1]
  simp
end
abbrev s_walk : Stmt := top 39
abbrev nWalk : List PySem.Str := ["steps", "table", "at", "place"]
def spWalk : SpG := fun vs H Q _ => ∃ n : Nat, vs = [.int (n : Int)] ∧ 1 ≤ n ∧ n ≤ 5 ∧ ∀ ys H', Ex H H' → Rows H' ys (rises n) → Q ys H'
theorem scWalk : GScope nWalk ["steps"] (defScope s_walk) := ⟨rfl, rfl, rfl, by decide +kernel, rfl, by decide +kernel, by decide +kernel⟩
theorem nv_take (T : List Nat) (k : Nat) : nv (T.take k) = (nv T).take k := by simp [nv, List.map_take]
theorem nv_rep (k x : Nat) : nv (List.replicate k x) = List.replicate k (V.int (x : Int)) := by simp [nv]
theorem nv_app (a b : List Nat) : nv (a ++ b) = nv a ++ nv b := List.map_append
theorem lastUp_max {n : Nat} {T : List Nat} : ∀ y ∈ (List.range n).filter (fun p => decide (T.getD p 0 < n - 1)), y ≤ lastUp n T := fun y hy => by
  unfold lastUp
  have sorted : ((List.range n).filter (fun p => decide (T.getD p 0 < n - 1))).Pairwise (· ≤ ·) := (List.pairwise_le_range).filter _
  generalize (List.range n).filter (fun p => decide (T.getD p 0 < n - 1)) = l at sorted hy
  induction l generalizing y with
  | nil => cases hy
  | cons a l ih =>
    cases l with
    | nil => simp at hy; subst hy; simp
    | cons b l =>
      rw [List.pairwise_cons] at sorted
      have e : (a :: b :: l).getLastD 0 = (b :: l).getLastD 0 := by simp [List.getLastD]
      rw [e]
      rcases List.mem_cons.mp hy with rfl | hy
      · have hb : b ∈ b :: l := List.mem_cons_self
        exact Nat.le_trans (sorted.1 b hb) (ih b sorted.2 hb)
      · exact ih y sorted.2 hy
theorem lastUp_mem {n : Nat} {T : List Nat} (h0 : 0 < n) (h : T.getD 0 0 < n - 1) : lastUp n T ∈ (List.range n).filter (fun p => decide (T.getD p 0 < n - 1)) := by
  have m0 : 0 ∈ (List.range n).filter (fun p => decide (T.getD p 0 < n - 1)) := List.mem_filter.mpr ⟨List.mem_range.mpr h0, decide_eq_true h⟩
  unfold lastUp
  generalize (List.range n).filter (fun p => decide (T.getD p 0 < n - 1)) = l at m0
  cases l with
  | nil => cases m0
  | cons a l => rw [List.getLastD_cons]; cases l with
    | nil => simp
    | cons b l => simp [List.getLastD]
section
variable {P : Program} {w : World} {K : PySem.W.Frag} {mg : PySem.Str → Option Value} {base : Heap} {f f1 f2 : Addr} {fd fd1 fd2 : FuncData}
/-- a generator def -/
theorem gfn_fun {x qual : PySem.Str} {st : Stmt} {N ps : List PySem.Str} {k : Nat} {sp : SpG} (F : Fun K x qual st f fd) (S : GScope N ps (defScope st)) (len : ∀ vs H Q E, sp vs H Q E → vs.length = ps.length)
    (hbody : ∀ (cdv : Value) (A : Around) (outer : List Env) (s : Shared) (H : Hp) (vs : List V) (Q : List V → Hp → Prop) (E : XK) (pn : List (Addr × Obj)), Room k (A.deeper (envOfC qual (defScope st) s.heap.objs.size f cdv)) → sp vs H Q E →
      ∃ t, GSs (gcxOf P w K mg base N qual (defScope st) f cdv A outer s H E pn) (defBody st) t ∧ t { nx := fun ys _ H' => Q ys H', rt := fun ys v H' => v = .non ∧ Q ys H' } [] (start N vs) H) : GFn P w K mg base (k + 1) f fd ps sp := by
  obtain ⟨oc, od, kV, doc, pm, an, cdv, ct, osl, rfl, lk, hcd⟩ := F.ex
  exact gfn_of lk hcd S len fun A outer s H vs Q E pn hr hsp => hbody cdv A outer s H vs Q E pn hr hsp
theorem gf1_fun {x qual : PySem.Str} {st : Stmt} {N ps : List PySem.Str} {k : Nat} {sp : SpF} (F : Fun K x qual st f fd) (S : GScope N ps (defScope st)) (len : ∀ vs H D, sp vs H D → vs.length = ps.length) (hi : ∀ l cdv, interactive (envOfC qual (defScope st) l f cdv) = false)
    (hbody : ∀ (cdv : Value) (A : Around) (outer : List Env) (s : Shared) (H : Hp) (vs : List V) (D : V → Hp → Prop), Room k (A.deeper (envOfC qual (defScope st) s.heap.objs.size f cdv)) → sp vs H D →
      ∃ t, First (gcxOf P w K mg base N qual (defScope st) f cdv A outer s H EN []) (defBody st) t ∧ t (start N vs) H D) : GF1 P w K mg base (k + 1) f fd ps sp := by
  obtain ⟨oc, od, kV, doc, pm, an, cdv, ct, osl, rfl, lk, hcd⟩ := F.ex
  exact gf1_of lk hcd S len (fun l => hi l cdv) fun A outer s H vs D hr hsp => hbody cdv A outer s H vs D hr hsp
theorem sv_steps {m M : Int} {H : Hp} (h1 : 1 ≤ m) (h2 : m ≤ M) : SpV spSteps [.int m, .int M] H .non := fun H1 e Q q E => ⟨m, M, rfl, h1, h2, fun H2 e2 => q H2 e2⟩
/-- the first item on eight steps -/
def spWalk8 : SpF := fun vs H D => vs = [.int 8] ∧ ∀ p H', Ex H H' → H' p = some (.lst (nv (List.replicate 8 0))) → D (.ref p) H'
theorem ok_walk8 (W : Wd mg) (D : Dat K mg "walk_tables" s_walk ["steps"] f fd) (D1 : Dat K mg "check_steps" s_check_steps ["many", "most"] f1 fd1) (G1 : FnOk P w K mg base (L2.CX P w) 1 f1 fd1 ["many", "most"] spSteps) : GF1 P w K mg base 2 f fd ["steps"] spWalk8 := by
  refine gf1_fun D.F scWalk (fun vs H D h => by obtain ⟨rfl, _⟩ := h; rfl) (fun _ _ => rfl) fun cdv A outer s H vs Dq hr h => ?_
  obtain ⟨rfl, k⟩ := h
  obtain ⟨tw, gw⟩ := W.walked
  refine ⟨_, first_cons (ps_expr (pe_call G1 hr rfl D1.g D1.k D1.b .nil pas0 (pa_cons (pv 0) (pa_cons (pe_gi rfl gw) pa_nil))))
    (first_cons (ps_set (i := 1) scWalk.nd rfl (Or.inr rfl) (pe_op op_rep (pe_lst (pa_cons pe_int pa_nil)) (pv 0)))
    (first_yield (pe_callTy call_list_of rfl W.list PyProof.Rows.boot_list (pa_cons (pv 1) pa_nil)))), ?_⟩
  refine s_drop (ev_call (z := .non) (ea_cons (ev_var rfl) (ea_cons ev_c ea_nil)) (sv_steps (by decide) (by decide))) fun H1 e1 => ?_
  refine s_asgL (el_rep1 (k := 8) (el_litN ev_c) (ev_var rfl) (by decide)) fun p H2 hp e2 h2 => ?_
  refine el_list (K := K) (ev_var rfl) (sq_of h2) H2 (Ex.refl _) _ fun q H3 hq e3 h3 => k q H3 ((e1.trans e2).trans e3) ?_
  rw [h3, nv_rep]; rfl
theorem ok_walk (W : Wd mg) (D : Dat K mg "walk_tables" s_walk ["steps"] f fd) (D1 : Dat K mg "check_steps" s_check_steps ["many", "most"] f1 fd1) (G1 : FnOk P w K mg base (L2.CX P w) 1 f1 fd1 ["many", "most"] spSteps) : GFn P w K mg base 2 f fd ["steps"] spWalk := by
  refine gfn_fun D.F scWalk (fun vs H Q E h => by obtain ⟨n, rfl, _⟩ := h; rfl) fun cdv A outer s H vs Q E pn hr h => ?_
  obtain ⟨n, rfl, h1, h5, k⟩ := h
  obtain ⟨tw, gw⟩ := W.walked
  refine ⟨_, gss_cons (gs_ps (ps_expr (pe_call G1 hr rfl D1.g D1.k D1.b .nil pas0 (pa_cons (pv 0) (pa_cons (pe_gi rfl gw) pa_nil)))))
    (gss_cons (gs_ps (ps_set (i := 1) scWalk.nd rfl (Or.inr rfl) (pe_op op_rep (pe_lst (pa_cons pe_int pa_nil)) (pv 0))))
    (gss_cons (gs_yield (pe_callTy call_list_of rfl W.list PyProof.Rows.boot_list (pa_cons (pv 1) pa_nil)))
    (gss_cons (gs_while owns_gcx (pt_cmpR op_lt (pe_ix ix_list (pv 1) pe_int (fun _ _ => rfl)) (pe_op op_sub (pv 0) pe_int) (nomark _))
      (gss_cons (gs_ps (ps_set (i := 2) scWalk.nd rfl (Or.inl rfl) (pe_callB (cr_max rfl) (by rfl) W.max (by decide +kernel) (pa_cons (pe_l1 (own := [("place", 3)]) (g := gName 3) (tt := tTest (tOp (rI0 fun i j => .bl (decide (i < j))) (tOp (rIxL K) (tVar 1) (tVar 3)) (tOp (rI0 fun i j => .int (i - j)) (tVar 0) (tC (.int 1))))) (te := tVar 3) rfl scWalk.nd (pi_range1 rfl W.range (pa_cons (pv 0) pa_nil)) (blkOk_by (N := nWalk) (sc := defScope s_walk) (by decide +kernel))
        (fun _ _ _ _ _ => pg_name (i := 3) scWalk.nd rfl (Or.inl rfl)) (fun _ _ _ _ _ => pts_one (pt_cmpR op_lt (pe_ix ix_list (pv 1) (pv 3) (fun _ _ => rfl)) (pe_op op_sub (pv 0) pe_int) (nomark _))) (fun _ _ _ _ _ => pv 3)) pa_nil))))
      (gss_cons (gs_ps (ps_set (i := 1) scWalk.nd rfl (Or.inr rfl) (pe_op op_cat (pe_slice sl_list (pv 1) po_none (po_some (pv 2))) (pe_op op_rep (pe_lst (pa_cons (pe_op op_add (pe_ix ix_list (pv 1) (pv 2) (fun _ _ => rfl)) pe_int) pa_nil)) (pe_op op_sub (pv 0) (pv 2))))))
      (gss_cons (gs_yield (pe_callTy call_list_of rfl W.list PyProof.Rows.boot_list (pa_cons (pv 1) pa_nil))) gss_nil))))
    gss_nil))), ?_⟩
  have WN := walk_of h1 h5
  refine s_drop (ev_call (z := .non) (ea_cons (ev_var rfl) (ea_cons ev_c ea_nil)) (sv_steps (by omega) (by omega))) fun H1 e1 => ?_
  refine s_asgL (el_rep1 (k := n) (el_litN ev_c) (ev_var rfl) (by omega)) fun p H2 hp e2 h2 => ?_
  refine ⟨by rw [sizeLine_eq]; decide, ?_⟩
  refine el_list (K := K) (ev_var rfl) (sq_of h2) H2 (Ex.refl _) _ fun q H3 hq e3 h3 => ?_
  have hR0 : Rows H3 ([] ++ [V.ref q]) ((rises n).take (0 + 1)) := by
    rw [take_next WN.pos]
    refine Rows.nil.snoc ?_
    rw [h3, WN.head, nv_rep]; rfl
  have hT0 : H3 p = some (.lst (nv ((rises n).getD 0 []))) := by
    rw [e3 _ _ h2, WN.head, nv_rep]; rfl
  refine ⟨fun m ys σ' H' => ∃ (i : Nat) (t : Addr) (u v : Option V), i < (rises n).length ∧ m = (rises n).length - i ∧ σ' = [some (.int (n : Int)), some (.ref t), u, v] ∧ Rows H' ys ((rises n).take (i + 1)) ∧ H' t = some (.lst (nv ((rises n).getD i []))) ∧ Ex H H', ⟨_, 0, p, none, none, WN.pos, rfl, rfl, hR0, hT0, (e1.trans e2).trans e3⟩, ?_⟩
  rintro m ys σ' H' ⟨i, t, u, v, hi, rfl, rfl, hR, hT, eH⟩
  have hlen := WN.len i hi
  have hsub : ∀ {σ : L2.St} {H : Hp} {x y : TE} {c : Nat}, 1 ≤ c → Ev x σ H (.int (c : Int)) → Ev y σ H (.int 1) → Ev (tOp (rI0 fun i j => .int (i - j)) x y) σ H (.int ((c - 1 : Nat) : Int)) := fun hc a b => ev_is (ev_op a b rv_I0) (by congr 1; omega)
  have htest : EvT (tTest (tOp (rI0 fun i j => .bl (decide (i < j))) (tOp (rIxL K) (tVar 1) (tC (.int 0))) (tOp (rI0 fun i j => .int (i - j)) (tVar 0) (tC (.int 1))))) [some (.int (n : Int)), some (.ref t), u, v] H' (decide (((rises n).getD i []).getD 0 0 < n - 1)) :=
    et_is (ev_ltI (g := fun i j => decide (i < j)) (ev_atN (ns := (rises n).getD i []) (k := 0) (ev_var rfl) ev_c (sq_of hT) (by omega)) (hsub h1 (ev_var rfl) ev_c)) (by simp only [decide_eq_decide]; omega)
  refine htest H' (Ex.refl _) _ fun H4 e4 => ?_
  by_cases hlast : i + 1 < (rises n).length
  · obtain ⟨g1, g2, g3, g4⟩ := WN.go i hlast
    rw [if_pos (decide_eq_true g1)]
    refine ⟨fun ys' σ' H' => ∃ (t : Addr) (u v : Option V), σ' = [some (.int (n : Int)), some (.ref t), u, v] ∧ Rows H' ys' ((rises n).take (i + 1 + 1)) ∧ H' t = some (.lst (nv ((rises n).getD (i + 1) []))) ∧ Ex H H', fun ys' σ' H' ⟨t, u, v, a, b, c, d⟩ => ⟨(rises n).length - (i + 1), by omega, i + 1, t, u, v, hlast, rfl, a, b, c, d⟩, ?_⟩
    have hT4 := e4 _ _ hT
    generalize hW : (rises n).getD i [] = T at hT hT4 g1 g2 g3 g4 hlen htest
    have cand : EvL (tKc P w .lst (iRng1 (tCons (tVar 0) tNil)) (gName 3) (tTest (tOp (rI0 fun i j => .bl (decide (i < j))) (tOp (rIxL K) (tVar 1) (tVar 3)) (tOp (rI0 fun i j => .int (i - j)) (tVar 0) (tC (.int 1))))) (tVar 3) [3]) [some (.int (n : Int)), some (.ref t), u, v] H4 (nv ((List.range n).filter fun p => decide (T.getD p 0 < n - 1))) := by
      have z := (ek_kcF (P := P) (w := w) .lst (fun p => decide (T.getD p 0 < n - 1)) (fun p => V.int (p : Nat)) (tt := tTest (tOp (rI0 fun i j => .bl (decide (i < j))) (tOp (rIxL K) (tVar 1) (tVar 3)) (tOp (rI0 fun i j => .int (i - j)) (tVar 0) (tC (.int 1))))) (te := tVar 3) (wi := iRng1 (tCons (tVar 0) tNil)) (j := 3) (vs := [3]) (σ := [some (.int (n : Int)), some (.ref t), u, v]) (H := H4) (ei_rng1 (n := (n : Int)) (ea_cons (ev_var rfl) ea_nil) (by omega) (by omega)) (by rw [nums_len]; omega) (fun _ => trivial) (fun _ => rfl) (fun p x H5 e5 hx => ?_) fun p x H5 e5 hx hf => ?_).lst
      · rw [nums_len, Int.toNat_natCast] at z
        exact z
      · obtain ⟨hp, rfl⟩ := nums_at hx
        exact et_is (ev_ltI (g := fun i j => decide (i < j)) (ev_atN (ns := T) (k := p) (ev_var rfl) (ev_is (ev_var rfl) (by rw [Int.zero_add])) (sq_of (e5 _ _ hT4)) (by omega)) (hsub h1 (ev_var rfl) ev_c)) (by simp only [decide_eq_decide]; omega)
      · obtain ⟨hp, rfl⟩ := nums_at hx
        exact ev_is (ev_var rfl) (by rw [Int.zero_add])
    refine s_asg (ev_maxN (K := K) cand (lastUp_mem (by omega) g1) lastUp_max) fun H5 e5 => ?_
    have hT5 := e5 _ _ hT4
    dsimp only [GEnds.at, tGThen, tPlain]
    refine s_asgL (xs := nv ((rises n).getD (i + 1) [])) ?_ fun t' H6 ht' e6 h6 => ?_
    · rw [g3]
      unfold nextT
      rw [nv_app, nv_take, nv_rep, ← cutV_pre (by rw [List.length_map]; omega)]
      refine el_cat (el_sl (ev_var rfl) eo_none (eo_some (ev_var rfl)) (sq_of hT5)) (el_rep1 (el_litN (ev_is (ev_op (ev_atN (ns := T) (k := lastUp n T) (ev_var rfl) (ev_var rfl) (sq_of hT5) (by omega)) ev_c rv_I0) (by simp))) (ev_is (ev_op (ev_var rfl) (ev_var rfl) rv_I0) (by congr 1; omega)) (by omega)) ?_
      have := cutV_length (nv T) none (some (lastUp n T : Int))
      rw [List.length_map] at this
      rw [List.length_replicate]
      omega
    · have hlen2 := hR.1
      rw [List.length_take] at hlen2
      have hsm := WN.small
      refine ⟨by rw [sizeLine_eq]; omega, ?_⟩
      refine el_list (K := K) (ev_var rfl) (sq_of h6) H6 (Ex.refl _) _ fun q2 H7 hq2 e7 h7 => ?_
      refine ⟨t', _, _, rfl, ?_, e7 _ _ h6, (((eH.trans e4).trans e5).trans e6).trans e7⟩
      rw [take_next hlast]
      exact (hR.mono (((e4.trans e5).trans e6).trans e7)).snoc h7
  · have hs := WN.stop i (by omega)
    rw [if_neg (by simpa using hs)]
    refine k ys H4 (eH.trans e4) ?_
    have hR2 := hR.mono e4
    rw [List.take_of_length_le (by omega)] at hR2
    exact hR2
end
end Z
end
/-! Y5 -/
set_option linter.all false
set_option maxRecDepth 100000
set_option maxHeartbeats 4000000
noncomputable section
namespace Z
/-! of Z5 -/
open PySem PySem.Spec PyProof.Rows L2 PySem.Froz Evl TS

/-- all but a stays -/
def ExB (a : Addr) (H H' : Hp) : Prop := ∀ b o, b ≠ a → H b = some o → H' b = some o
theorem ExB.of {a : Addr} {H H' : Hp} (e : Ex H H') : ExB a H H' := fun b o _ h => e b o h
theorem ExB.trans {a : Addr} {H H1 H2 : Hp} (h : ExB a H H1) (h' : ExB a H1 H2) : ExB a H H2 := fun b o n z => h' b o n (h b o n z)
theorem ExB.upd {a : Addr} {H : Hp} {o : HO} : ExB a H (upd H a o) := fun b u n z => by rw [upd_ne n]; exact z
theorem ExB.base {a : Addr} {G H H' : Hp} (hG : Ex G H) (na : G a = none) (h : ExB a H H') : Ex G H' := fun b o z => h b o (fun q => by rw [q, na] at z; cases z) (hG b o z)
theorem pg_no {X : Cx} {e : Expr} : PG X e (fun _ _ _ _ => False) := ⟨fun _ _ _ _ _ _ _ _ _ h => h.elim⟩
section
variable {P : Program} {w : World} {K : PySem.W.Frag} {σ : L2.St} {H H1 : Hp} {tv to te : TE} {D : Ends} {tz : TS} {a C dx : Addr} {fs : List (PySem.Str × V)} {f : PySem.Str} {wi : TI}
/-- a gathering over nothing -/
theorem ek_none {kd : Kd} {g : TG} {tt : TT} {vs : List Nat} (h : EvI wi σ H []) : EvK P w kd (tKc P w kd wi g tt te vs) σ H [] := fun H0 e Q q => h H0 e _ fun J H1 G e1 eG eG1 nG g D hD => by
  refine ⟨fun i m H' => i = 0 ∧ H' = upd H1 D (kd.ini P w D), ⟨0, rfl, rfl⟩, ?_⟩
  rintro i m H' ⟨rfl, rfl⟩
  refine .inl ⟨g.stop 0 _ (Nat.le_refl _) (eG1.trans (Ex.new hD)), q D _ (fresh_back e1 hD) (e1.trans (Ex.new hD)) ?_⟩
  rw [upd_same, kd.val0]
/-- a new thing -/
def EvN (te : TE) (σ : L2.St) (H : Hp) (o : HO) : Prop := ∀ H1, Ex H H1 → ∀ Q : VK, (∀ p H2, H1 p = none → Ex H1 H2 → H2 p = some o → Q (.ref p) H2) → te σ H1 Q
theorem evp_N {o u : HO} (h : EvN te σ H o) (ha : H a = some u) : EvP te σ H fun v H' => ∃ r, v = .ref r ∧ H' r = some o ∧ r ≠ a := fun H1 e Q q => h H1 e Q fun p H2 hp e2 h2 => q _ H2 e2 ⟨p, rfl, h2, fun z => by rw [z, e _ _ ha] at hp; cases hp⟩
theorem stays_N {o : HO} : ∀ (v : V) (H1 H2 : Hp), Ex H1 H2 → (∃ r, v = .ref r ∧ H1 r = some o ∧ r ≠ a) → ∃ r, v = .ref r ∧ H2 r = some o ∧ r ≠ a := fun _ _ _ e ⟨r, h1, h2, h3⟩ => ⟨r, h1, e _ _ h2, h3⟩
/-- a dict over nothing -/
theorem en_dc0 {g : TG} {tt : TT} {tk : TE} {vs : List Nat} (h : EvI wi σ H []) : EvN (tDc wi g tt tk tv vs) σ H (.dK []) := fun H0 e Q q => h H0 e _ fun J H1 G e1 eG eG1 nG g D hD => by
  refine ⟨fun i m H' => i = 0 ∧ H' = upd H1 D (.dK []), ⟨0, rfl, rfl⟩, ?_⟩
  rintro i m H' ⟨rfl, rfl⟩
  exact .inl ⟨g.stop 0 _ (Nat.le_refl _) (eG1.trans (Ex.new hD)), q D _ (fresh_back e1 hD) (e1.trans (Ex.new hD)) upd_same⟩
/-- a walk over nothing -/
theorem s_forNone {g : TG} {tb : TS} (h : EvI wi σ H []) (e1 : Ex H H1) (k : ∀ H', Ex H1 H' → D.nx σ H') : tFor wi g tb D σ H1 := h H1 e1 _ fun J H2 G e2 eG eG2 nG g => by
  refine ⟨fun i m σ' H' => i = 0 ∧ σ' = σ ∧ H' = H2, ⟨0, rfl, rfl, rfl⟩, ?_⟩
  rintro i m σ' H' ⟨rfl, rfl, rfl⟩
  exact .inl ⟨g.stop 0 _ (Nat.le_refl _) eG2, k _ e2⟩
theorem q_forNone {g : TG} {tb : TS} (h : EvI wi σ H []) (e1 : Ex H H1) (k : ∀ H', Ex H1 H' → tz D σ H') : tSeq (tFor wi g tb) tz D σ H1 := s_forNone (D := { D with nx := tz D }) h e1 k
/-- a.f = value -/
theorem s_fldP {R : V → Hp → Prop} (hv : EvP tv σ H R) (ho : Ev to σ H (.ref a)) (ha : H a = some (.ins C dx fs)) (c : Cls K C) (n : NoAttr K C f) (hz : fs.length < 1000) (st : ∀ v H1 H2, Ex H1 H2 → R v H1 → R v H2) (k : ∀ v H1, Ex H H1 → R v H1 → D.nx σ (upd H1 a (.ins C dx (putF f v fs)))) : sFld K to tv f D σ H :=
  hv H (Ex.refl H) _ fun v H1 e r => ho H1 e _ fun H2 e2 => ⟨a, C, dx, fs, rfl, (e.trans e2) _ _ ha, c, n, hz, k v H2 (e.trans e2) (st _ _ _ e2 r)⟩
theorem s_fldV {v : V} (hv : Ev tv σ H v) (ho : Ev to σ H (.ref a)) (ha : H a = some (.ins C dx fs)) (c : Cls K C) (n : NoAttr K C f) (hz : fs.length < 1000) (k : ∀ H1, Ex H H1 → D.nx σ (upd H1 a (.ins C dx (putF f v fs)))) : sFld K to tv f D σ H :=
  hv H (Ex.refl H) _ fun H1 e => ho H1 e _ fun H2 e2 => ⟨a, C, dx, fs, rfl, (e.trans e2) _ _ ha, c, n, hz, k H2 (e.trans e2)⟩
theorem q_fldP {R : V → Hp → Prop} (hv : EvP tv σ H R) (ho : Ev to σ H (.ref a)) (ha : H a = some (.ins C dx fs)) (c : Cls K C) (n : NoAttr K C f) (hz : fs.length < 1000) (st : ∀ v H1 H2, Ex H1 H2 → R v H1 → R v H2) (k : ∀ v H1, Ex H H1 → R v H1 → tz D σ (upd H1 a (.ins C dx (putF f v fs)))) : tSeq (sFld K to tv f) tz D σ H := s_fldP (D := { D with nx := tz D }) hv ho ha c n hz st k
theorem q_fldV {v : V} (hv : Ev tv σ H v) (ho : Ev to σ H (.ref a)) (ha : H a = some (.ins C dx fs)) (c : Cls K C) (n : NoAttr K C f) (hz : fs.length < 1000) (k : ∀ H1, Ex H H1 → tz D σ (upd H1 a (.ins C dx (putF f v fs)))) : tSeq (sFld K to tv f) tz D σ H := s_fldV (D := { D with nx := tz D }) hv ho ha c n hz k
theorem ev_fld {v : V} (ho : Ev to σ H (.ref a)) (ha : H a = some (.ins C dx fs)) (c : Cls K C) (n : NoAttr K C f) (hl : fs.lookup f = some v) : Ev (tFld K to f) σ H v := fun H1 e Q q => ho H1 e _ fun H2 e2 => ⟨a, C, dx, fs, v, rfl, (e.trans e2) _ _ ha, c, n, hl, q H2 e2⟩
theorem ei_tupN {xs : List V} (h : EvU te σ H xs) : EvI (iTup K te) σ H xs := fun H1 e R q => h H1 e _ fun p H2 hp e2 h2 =>
  ⟨p, rfl, ⟨xs, st_of h2⟩, q _ H2 (upd H p (.tup xs)) e2 (Ex.new (fresh_back e hp)) (fun b o z => by
    by_cases hb : b = p
    · subst hb; rw [upd_same] at z; rw [← z]; exact h2
    · rw [upd_ne hb] at z; exact e2 b o (e b o z)) (fun b n n1 => by
    have ne : b ≠ p := fun z => n1 (by rw [z]; exact hp)
    rw [upd_ne ne]; exact n) (goes_t fun H3 e3 => st_of (e3 p _ upd_same))⟩
end

section
variable {K : PySem.W.Frag} {σ : L2.St} {H : Hp} {te : TE}
theorem ev_isN {x : V} (h : Ev te σ H x) : Ev (tIsN te) σ H (.bl (decide (x = .non))) := fun H1 e Q q => h H1 e _ fun H2 e2 => q H2 e2
/-- a tuple made -/
def RetU (xs : List V) (H : Hp) (Q : VK) : Prop := ∀ p H2, H p = none → Ex H H2 → H2 p = some (.tup xs) → Q (.ref p) H2
theorem eu_call {sp : Sp} {dvs vs xs : List V} {E : XK} {ta : TA} (h : EvA ta σ H vs) (hs : ∀ H1, Ex H H1 → ∀ Q : VK, RetU xs H1 Q → ∀ E : XK, sp (vs ++ dvs) H1 Q E) : EvU (tCall sp dvs E ta) σ H xs := fun H1 e Q q => h H1 e _ fun H2 e2 => hs H2 (e.trans e2) Q (fun p H3 hp e3 h3 => q p H3 (fresh_back e2 hp) (e2.trans e3) h3) E
theorem eu_tupL {a : Addr} {xs : List V} (h : Ev te σ H (.ref a)) (hx : SqL K H a xs) : EvU (tThen te (kTup K)) σ H xs := fun H1 e Q q => h H1 e _ fun H2 e2 => .inl ⟨a, xs, rfl, ⟨ex_l (e.trans e2) hx, fun p hp => q p _ (fresh_back e2 hp) (e2.trans (Ex.new hp)) upd_same⟩⟩
end
/-! ### the class Facts: no told pairs, one paired dial -/
structure FCls (K : PySem.W.Frag) (mg : PySem.Str → Option Value) (CF : Addr) : Prop where
  c : Cls K CF
  n1 : NoAttr K CF "_rows"
  n2 : NoAttr K CF "_paired"
  n3 : NoAttr K CF "_over"
  g : mg "Facts" = some (.ref CF)
  most : ∃ mc t, ClX.CRead K CF mc ∧ ClX.CVal K CF mc "MOST" (.int 24) (.int 24 t)
abbrev fF (r : Addr) (l : PySem.Str) (o : Addr) : List (PySem.Str × V) := [("_rows", .ref r), ("_paired", .str l), ("_over", .ref o)]
abbrev One (l : PySem.Str) : Prop := inS smallsS l = true
theorem One.sign {l : PySem.Str} (h : One l) : ∃ c, l = ⟨#[c]⟩ ∧ c ∈ smallsS.cps.toList := by
  by_cases h1 : l.length = 1
  · obtain ⟨c, rfl⟩ := one_sign h1
    rw [One, inS_one] at h
    exact ⟨c, rfl, of_decide_eq_true h⟩
  · rw [One, inS_len h1] at h; cases h
theorem One.len {l : PySem.Str} (h : One l) : l.length = 1 := by obtain ⟨c, rfl, _⟩ := h.sign; rfl
theorem One.signs {l : PySem.Str} (h : One l) : signsV l = [.str l] := by obtain ⟨c, rfl, _⟩ := h.sign; rfl
/-- a method of a class's body -/
structure DatM (K : PySem.W.Frag) (n q : String) (st : Stmt) (ps : List PySem.Str) (f : Addr) (fd : FuncData) : Prop where
  F : Fun K n q st f fd
  b : Binds K fd ps []
/-- .. with defaults, all given -/
structure DatD (K : PySem.W.Frag) (n q : String) (st : Stmt) (dvs : List V) (kws : List (PySem.Str × V)) (ps : List PySem.Str) (f : Addr) (fd : FuncData) : Prop where
  F : FunD K n q (defArgs st) (defBody st) (defScope st) dvs kws f fd
  b : Binds K fd ps []
section
variable {P : Program} {w : World} {K : PySem.W.Frag} {mg : PySem.Str → Option Value} {base : Heap} {f f1 f2 f3 CF : Addr} {fd fd1 fd2 fd3 : FuncData}
theorem ev_lenU {σ : L2.St} {H : Hp} {te : TE} {xs : List V} (h : EvU te σ H xs) : Ev (tCB (rLenS K) (tCons te tNil)) σ H (.int (xs.length : Int)) := fun H1 e Q q => h H1 e _ fun p H2 _ e2 h2 => ⟨p, xs, rfl, Or.inr (st_of h2), q H2 e2⟩
/-! ### told_facts, _different, _check_told -/
abbrev s_told : Stmt := top 42
def spTold : Sp := fun vs H Q _ => ∃ a : Addr, vs = [.ref a] ∧ RetV (.ref a) H Q
theorem scTold : FnScope ["facts"] ["facts"] (defScope s_told) := ⟨rfl, rfl, rfl, by decide +kernel, rfl, by decide +kernel, by decide +kernel⟩
theorem ok_told (D : Dat K mg "told_facts" s_told ["facts"] f fd) : FnOk P w K mg base (L2.CX P w) 1 f fd ["facts"] spTold := by
  refine D.F.okX scTold (fun vs H Q E h => ?_) (fun cdv A outer s H vs Q E hr h => ?_)
  · obtain ⟨a, rfl, _⟩ := h
    rfl
  · obtain ⟨a, rfl, k⟩ := h
    refine ⟨_, pss_one (ps_ret (pe_ifExp (pt_cmp (pc_isN (pv 0))) pe_no (pv 0))), ?_⟩
    exact s_ret (ev_if (b := false) (et_is (et_B (ev_isN (ev_var rfl))) (decide_eq_false fun h => nomatch h)) (fun h => nomatch h) fun _ => ev_var rfl) fun H1 e => k H1 e
end

/-! of Z6 -/
open PySem PySem.Spec PyProof.Rows L2 PySem.Froz Evl TS

section
variable {X : Cx} {elt tg iter tg1 iter1 : Expr} {ifs ifs1 : List Expr} {scope : Scope} {own : List (PySem.Str × Nat)} {vs1 : List Nat} {pos : Pos} {wi wi1 : TI} {g g1 : TG} {tt tt1 : TT} {te : TE}
theorem pe_s1 (hc : X.calm = true) (hN : X.N.Nodup) (hi : PI X tg iter wi) (ok : BlkOk X.N X.env.scope scope own)
    (hg : ∀ (s : Shared) (H : Hp) (C : Addr) (cl : List (PySem.Str × Addr)) (fp : List Addr), PG (X.blk s H scope (compEnvC scope cl C X.env) fp) tg g) (ht : ∀ (s : Shared) (H : Hp) (C : Addr) (cl : List (PySem.Str × Addr)) (fp : List Addr), PTs (X.blk s H scope (compEnvC scope cl C X.env) fp) ifs tt)
    (he : ∀ (s : Shared) (H : Hp) (C : Addr) (cl : List (PySem.Str × Addr)) (fp : List Addr), PE (X.blk s H scope (compEnvC scope cl C X.env) fp) elt te) (hs : ∀ x, foldedSetIterable iter X.env x = pure x := by intro _; rfl) :
    PE X (.SetComp elt [⟨tg, iter, ifs, 0⟩] scope pos) (tKc X.prog X.w .set wi g tt te (own.map (·.2))) :=
  kc_run (kd := .set) (xb := xnone) (Pz := fun _ => True) hc hN hi ok (fun _ _ _ z => z.elim) (fun _ _ _ _ _ _ _ _ => trivial) (fun s H C cl fp _ => hg s H C cl fp) (fun s H C cl fp _ => ht s H C cl fp) (fun s H C cl fp _ => he s H C cl fp) hs
theorem pe_l2 (hc : X.calm = true) (hN : X.N.Nodup) (hi : PI X tg iter wi) (ok : BlkOk X.N X.env.scope scope own) (hv : ∀ i ∈ vs1, i ∈ own.map (·.2))
    (hg : ∀ (s : Shared) (H : Hp) (C : Addr) (cl : List (PySem.Str × Addr)) (fp : List Addr), PG (X.blk s H scope (compEnvC scope cl C X.env) fp) tg g) (ht : ∀ (s : Shared) (H : Hp) (C : Addr) (cl : List (PySem.Str × Addr)) (fp : List Addr), PTs (X.blk s H scope (compEnvC scope cl C X.env) fp) ifs tt)
    (hi1 : ∀ (s : Shared) (H : Hp) (C : Addr) (cl : List (PySem.Str × Addr)) (fp : List Addr), PI (X.blk s H scope (compEnvC scope cl C X.env) fp) tg1 iter1 wi1)
    (hg1 : ∀ (s : Shared) (H : Hp) (C : Addr) (cl : List (PySem.Str × Addr)) (fp : List Addr), PG (X.blk s H scope (compEnvC scope cl C X.env) fp) tg1 g1) (ht1 : ∀ (s : Shared) (H : Hp) (C : Addr) (cl : List (PySem.Str × Addr)) (fp : List Addr), PTs (X.blk s H scope (compEnvC scope cl C X.env) fp) ifs1 tt1)
    (he : ∀ (s : Shared) (H : Hp) (C : Addr) (cl : List (PySem.Str × Addr)) (fp : List Addr), PE (X.blk s H scope (compEnvC scope cl C X.env) fp) elt te) (hs : ∀ x, foldedSetIterable iter X.env x = pure x := by intro _; rfl) (hs1 : ∀ env x, foldedSetIterable iter1 env x = pure x := by intro _ _; rfl) :
    PE X (.ListComp elt [⟨tg, iter, ifs, 0⟩, ⟨tg1, iter1, ifs1, 0⟩] scope pos) (tKc2 X.prog X.w .lst wi g tt wi1 g1 tt1 te (own.map (·.2)) vs1) :=
  kc2_run (kd := .lst) (xb := xnone) (Pz := fun _ => True) hc hN hi ok hv (fun _ _ _ z => z.elim) (fun _ _ _ _ _ _ _ _ => trivial) (fun s H C cl fp _ => hg s H C cl fp) (fun s H C cl fp _ => ht s H C cl fp) (fun s H C cl fp _ => hi1 s H C cl fp) hg1 ht1 he hs hs1
theorem pts_no {ifs : List Expr} : PTs X ifs (fun _ _ _ => False) := ⟨fun _ _ _ _ _ _ h => h.elim⟩
end
section
variable {P : Program} {w : World} {K : PySem.W.Frag} {σ : L2.St} {H H1 : Hp} {to te : TE} {wi wi1 : TI}
theorem ek_none2 {kd : Kd} {g g1 : TG} {tt tt1 : TT} {vs vs1 : List Nat} (h : EvI wi σ H []) : EvK P w kd (tKc2 P w kd wi g tt wi1 g1 tt1 te vs vs1) σ H [] := fun H0 e Q q => h H0 e _ fun J H1 G e1 eG eG1 nG g D hD => by
  refine ⟨fun i m H' => i = 0 ∧ H' = upd H1 D (kd.ini P w D), ⟨0, rfl, rfl⟩, ?_⟩
  rintro i m H' ⟨rfl, rfl⟩
  refine .inl ⟨g.stop 0 _ (Nat.le_refl _) (eG1.trans (Ex.new hD)), q D _ (fresh_back e1 hD) (e1.trans (Ex.new hD)) ?_⟩
  rw [upd_same, kd.val0]
theorem el_none2 {g g1 : TG} {tt tt1 : TT} {vs vs1 : List Nat} (h : EvI wi σ H []) : EvL (tLc2 wi g tt wi1 g1 tt1 te vs vs1) σ H [] := fun H0 e Q q => h H0 e _ fun J H1 G e1 eG eG1 nG g D hD => by
  refine ⟨fun i m H' => i = 0 ∧ H' = upd H1 D (.lst []), ⟨0, rfl, rfl⟩, ?_⟩
  rintro i m H' ⟨rfl, rfl⟩
  exact .inl ⟨g.stop 0 _ (Nat.le_refl _) (eG1.trans (Ex.new hD)), q D _ (fresh_back e1 hD) (e1.trans (Ex.new hD)) upd_same⟩
theorem ev_join {x : PySem.Str} (hl : x.length = 1) (ho : ∀ H1, Ex H H1 → Ev to σ H1 (.str Str.empty)) (h : EvL te σ H [.str x]) : Ev (tM1 (fun x xs H Q => ∃ a p, ∃ ys : List PySem.Str, x = .str a ∧ xs = [.ref p] ∧ (SqL K H p (ys.map V.str) ∨ SqT K H p (ys.map V.str)) ∧
      (ys.map (·.length)).sum + ys.length * a.length ≤ 16777216 ∧ Q (.str (Txt.join a ys)) H) to te) σ H (.str x) := fun H1 e Q q =>
  ho H1 e H1 (Ex.refl _) _ fun H2 e2 => ⟨⟨_, rfl⟩, h H2 (e.trans e2) _ fun p H3 hp e3 h3 => ⟨Str.empty, p, [x], rfl, rfl, .inl (sq_of h3), by simp [Str.empty, Str.length]; rw [show x.cps.size = 1 from hl]; decide, by
    have z : Txt.join Str.empty [x] = x := by
      obtain ⟨c, rfl⟩ := one_sign hl
      first | rfl | (unfold Txt.join; simp) | decide
    rw [z]; exact q H3 (e2.trans e3)⟩⟩
/-- set(text) of one sign -/
theorem ek_setOne {x : PySem.Str} (h : Ev te σ H (.str x)) (h1 : One x) : EvK P w .set (tCB (rSetNew P w K) (tCons te tNil)) σ H [.str x] := fun H1 e Q q => h H1 e _ fun H2 e2 => by
  obtain ⟨c, rfl, _⟩ := h1.sign
  exact ⟨_, [⟨#[c]⟩], rfl, .inr (.inr ⟨_, rfl, rfl⟩), by simp, fun p hp => q p _ (fresh_back e2 hp) (e2.trans (Ex.new hp)) upd_same⟩
/-- set(a new list of texts) -/
theorem ek_setL {ss : List PySem.Str} (h : EvL te σ H (ss.map V.str)) (hz : ss.length ≤ 4000) : EvK P w .set (tCB (rSetNew P w K) (tCons te tNil)) σ H (ss.map V.str) := fun H1 e Q q => h H1 e _ fun a H2 ha e2 h2 => by
  refine ⟨_, ss, rfl, .inl ⟨a, rfl, sq_of h2⟩, hz, fun p hp => q p _ (fresh_back e2 hp) (e2.trans (Ex.new hp)) ?_⟩
  rw [upd_same]
  show some (SetS P w p (intoSet [] ss)) = some (SetS P w p (intoSet [] ((ss.map V.str).map strV)))
  rw [strV_map]
theorem ord_one {x : PySem.Str} (h : x.length = 1) : wordOrd [x] = [x] := ((wordOrd_one (n := 1) (by simp) (by simp) (by simpa using h)).eq).symm
theorem ord_nil : wordOrd [] = [] := ((wordOrd_one (n := 1) (by simp) (by simp) (by simp)).eq).symm
end

section
variable {P : Program} {w : World} {K : PySem.W.Frag} {mg : PySem.Str → Option Value} {base : Heap} {f f1 f2 f3 CF : Addr} {fd fd1 fd2 fd3 : FuncData}
theorem ev_cval {σ : L2.St} {H : Hp} {mc : Value} {C : Addr} {f : PySem.Str} {v : V} {u : Value} (r : ClX.CRead K C mc) (k : ClX.CVal K C mc f v u) : Ev (ClX.tCVal K (tC (.ref C)) f) σ H v := fun H1 e Q q => ⟨C, mc, v, u, rfl, r, k, q H1 (Ex.refl H1)⟩
/-! ### Facts.__init__ -/
/-! ### Facts.listed, .paired, .dial_list -/
theorem upd_make {H : Hp} {x dx : Addr} {C : Addr} (hx : H x = none) (hd : H dx = none) : Ex H (upd (upd H dx (.own x)) x (.ins C dx [])) := fun b o h => by
  rw [upd_ne (fun z => by rw [z, hx] at h; cases h), upd_ne (fun z => by rw [z, hd] at h; cases h)]; exact h
/-! ### Facts.__iter__ -/
end

/-! of Z7 -/
open PySem PySem.Spec PyProof.Rows L2 PySem.Froz Evl TS

section
variable {P : Program} {w : World} {K : PySem.W.Frag} {σ : L2.St} {H H1 : Hp} {ta tb te tk tv to : TE} {D : Ends} {d : Addr} {tt : TT} {i j : Nat} {k : Key} {v : V}
/-- what is locked comes back -/
theorem lock_ex {H H' : Hp} {d : Addr} {u : HO} {od : Obj} (hd : H d = some u) (e : Ex (upd H d (.frz od u)) H') : H' d = some (.frz od u) ∧ Ex H (upd H' d u) := by
  refine ⟨e _ _ upd_same, fun b o h => ?_⟩
  by_cases hb : b = d
  · subst hb; rw [upd_same, ← hd, h]
  · rw [upd_ne hb]; exact e _ _ (by rw [upd_ne hb]; exact h)
theorem ev_din {ty td : TE} {a : Addr} {kvs : List (Key × V)} (hy : Ev ty σ H (kV k)) (hd : Ev td σ H (.ref a)) (h : H a = some (.dK kvs)) : Ev (tDIn ty td) σ H (.bl (valV kvs k).isSome) := fun H1 e Q q => hy H1 e _ fun H2 e2 => hd H2 (e.trans e2) _ fun H3 e3 => ⟨a, _, rfl, .k (((e.trans e2).trans e3) _ _ h), q H3 (e2.trans e3)⟩
theorem ev_dnotin {ty td : TE} {a : Addr} {kvs : List (Key × V)} (hy : Ev ty σ H (kV k)) (hd : Ev td σ H (.ref a)) (h : H a = some (.dK kvs)) : Ev (tDNotIn ty td) σ H (.bl (!(valV kvs k).isSome)) := fun H1 e Q q => hy H1 e _ fun H2 e2 => hd H2 (e.trans e2) _ fun H3 e3 => ⟨a, _, rfl, .k (((e.trans e2).trans e3) _ _ h), q H3 (e2.trans e3)⟩
theorem ev_dget {ty td : TE} {a : Addr} {kvs : List (Key × V)} (hd : Ev td σ H (.ref a)) (hy : Ev ty σ H (kV k)) (h : H a = some (.dK kvs)) (hv : valV kvs k = some v) : Ev (tDGet td ty) σ H v := fun H1 e Q q => hd H1 e _ fun H2 e2 => hy H2 (e.trans e2) _ fun H3 e3 => ⟨a, v, rfl, by rw [← hv]; exact .k (((e.trans e2).trans e3) _ _ h), q H3 (e2.trans e3)⟩
theorem valV_one : valV [(k, v)] k = some v := by simp [valV]
theorem valV_other {k' : Key} (h : k ≠ k') : valV [(k, v)] k' = none := by simp [valV, h]
theorem ev_prop {C : Addr} {sp : Sp} {dx : Addr} {fs : List (PySem.Str × V)} {a : Addr} {E : XK} (h : Ev te σ H (.ref a)) (ha : H a = some (.ins C dx fs)) (hs : SpV sp [.ref a] H v) : Ev (tProp C sp [] E te) σ H v := fun H1 e Q q => h H1 e _ fun H2 e2 => ⟨a, dx, fs, rfl, (e.trans e2) _ _ ha, hs H2 (e.trans e2) _ (fun H3 e3 => q H3 (e2.trans e3)) E⟩
theorem el_meth {C : Addr} {m : PySem.Str} {sp : Sp} {dx : Addr} {fs : List (PySem.Str × V)} {a : Addr} {E : XK} {vs xs : List V} {t : TA} (h : Ev te σ H (.ref a)) (ha : H a = some (.ins C dx fs)) (hm : fs.lookup m = none) (hvs : EvA t σ H vs) (hs : SpL sp (.ref a :: vs) H xs) : EvL (tMeth C m sp [] E te t) σ H xs := fun H1 e Q q =>
  h H1 e _ fun H2 e2 => ⟨a, dx, fs, rfl, (e.trans e2) _ _ ha, hm, hvs H2 (e.trans e2) _ fun H3 e3 => by
    rw [List.append_nil]
    exact hs H3 ((e.trans e2).trans e3) _ (fun p H4 hp e4 h4 => q p H4 (fresh_back (e2.trans e3) hp) ((e2.trans e3).trans e4) h4) E⟩
end
section
variable {P : Program} {w : World} {K : PySem.W.Frag} {mg : PySem.Str → Option Value} {base : Heap} {f f1 f2 f3 f4 CF CW : Addr} {fd fd1 fd2 fd3 fd4 : FuncData}
/-! ### check_places, _check_tables -/
end

/-! of Z8 -/
open PySem PySem.Spec PyProof.Rows L2 PySem.Froz Evl TS

section
variable {σ : L2.St} {H : Hp} {te : TE} {D : Ends} {tz : TS} {i : Nat} {R : V → Hp → Prop}
theorem s_asgP (h : EvP te σ H R) (k : ∀ v H1, Ex H H1 → R v H1 → D.nx (σ.set i (some v)) H1) : tAsg te (gName i) D σ H := h H (Ex.refl H) _ fun v H1 e r => k v H1 e r
theorem q_asgP (h : EvP te σ H R) (k : ∀ v H1, Ex H H1 → R v H1 → tz D (σ.set i (some v)) H1) : tSeq (tAsg te (gName i)) tz D σ H := s_asgP (D := { D with nx := tz D }) h k
theorem s_retP (h : EvP te σ H R) (k : ∀ v H1, Ex H H1 → R v H1 → D.rt v H1) : tRet te D σ H := h H (Ex.refl H) _ fun v H1 e r => k v H1 e r
end
/-! ### the class World -/
structure WCls (K : PySem.W.Frag) (mg : PySem.Str → Option Value) (CW : Addr) : Prop where
  c : Cls K CW
  n1 : NoAttr K CW "_facts"
  n2 : NoAttr K CW "_steps"
  n3 : NoAttr K CW "_places"
  n4 : NoAttr K CW "_tables"
  n5 : NoAttr K CW "_backs"
  g : mg "World" = some (.ref CW)
  most : ∃ mc t, ClX.CRead K CW mc ∧ ClX.CVal K CW mc "MOST" (.int 60) (.int 60 t)
/-- the methods and the property of Facts that are used -/
structure FMet (K : PySem.W.Frag) (CF fD fP pP fI : Addr) : Prop where
  d : Meth K CF "dial_list" fD
  p : PropOf K CF "paired" pP fP
  i : ItOwn K CF fI
section
variable {P : Program} {w : World} {K : PySem.W.Frag} {mg : PySem.Str → Option Value} {base : Heap} {f f1 f2 f3 f4 f5 CF CW fD fP pP fI : Addr} {fd fd1 fd2 fd3 fd4 fd5 fdD fdP : FuncData}
theorem sl_still {n : Nat} {H : Hp} (h : n ≤ 1000) : SpL spStill [.int (n : Int)] H (nv (List.range n)) := fun H1 e Q q E => ⟨n, rfl, h, fun p H2 hp e2 h2 => q p H2 hp e2 h2⟩
end

/-! of Z9 -/
open PySem PySem.Spec PyProof.Rows L2 PySem.Froz Evl TS

abbrev fW (fa : Addr) (n : Nat) (pl tb bk : Addr) : List (PySem.Str × V) := [("_facts", .ref fa), ("_steps", .int (n : Int)), ("_places", .ref pl), ("_tables", .ref tb), ("_backs", .ref bk)]
/-- a grounded table -/
structure Grd (T : List Nat) : Prop where
  ris : Ris T
  zero : T.getD 0 0 = 0
  len : T.length ≤ 60
section
variable {P : Program} {w : World} {K : PySem.W.Frag} {mg : PySem.Str → Option Value} {base : Heap} {f f1 f2 f3 f4 f5 f6 CF CW fD fP pP fI : Addr} {fd fd1 fd2 fd3 fd4 fd5 fd6 fdD fdP : FuncData}
theorem sl_back {a : Addr} {T : List Nat} {H : Hp} (h : SqL K H a (nv T)) (g : Grd T) : SpL (spBack K) [.ref a] H (nv (backT T)) := fun H1 e Q q E => ⟨a, T, rfl, ex_l e h, by have := g.len; omega, g.ris.pos, g.zero, fun p H2 hp e2 h2 => q p H2 hp e2 h2⟩
/-- a new thing that names another new one -/
def EvN2 (te : TE) (σ : L2.St) (H : Hp) (mk : Addr → HO) (o : HO) : Prop := ∀ H1, Ex H H1 → ∀ Q : VK, (∀ p q H2, H1 p = none → H1 q = none → p ≠ q → Ex H1 H2 → H2 p = some (mk q) → H2 q = some o → Q (.ref p) H2) → te σ H1 Q
theorem evp_N2 {te : TE} {σ : L2.St} {H : Hp} {a : Addr} {mk : Addr → HO} {o u : HO} (h : EvN2 te σ H mk o) (ha : H a = some u) : EvP te σ H fun v H' => ∃ p q, v = .ref p ∧ H' p = some (mk q) ∧ H' q = some o ∧ p ≠ a ∧ q ≠ a := fun H1 e Q k => h H1 e Q fun p q H2 hp hq _ e2 h2 h3 => k _ H2 e2 ⟨p, q, rfl, h2, h3, (fun z => by rw [z, e _ _ ha] at hp; cases hp), (fun z => by rw [z, e _ _ ha] at hq; cases hq)⟩
theorem stays_N2 {a : Addr} {mk : Addr → HO} {o : HO} : ∀ (v : V) (H1 H2 : Hp), Ex H1 H2 → (∃ p q, v = .ref p ∧ H1 p = some (mk q) ∧ H1 q = some o ∧ p ≠ a ∧ q ≠ a) → ∃ p q, v = .ref p ∧ H2 p = some (mk q) ∧ H2 q = some o ∧ p ≠ a ∧ q ≠ a := fun _ _ _ e ⟨p, q, h1, h2, h3, h4⟩ => ⟨p, q, h1, e _ _ h2, e _ _ h3, h4⟩
theorem ev_upper {σ : L2.St} {H : Hp} {te : TE} {x : PySem.Str} (h : Ev te σ H (.str x)) (hz : x.length ≤ 1000) : Ev (tM0 (fun x xs H Q => ∃ a, x = .str a ∧ xs = [] ∧ a.length ≤ 5592405 ∧ Q (.str (Txt.upper a)) H) te) σ H (.str (Txt.upper x)) := fun H1 e Q q => h H1 e _ fun H2 e2 => ⟨⟨x, rfl⟩, x, rfl, rfl, by omega, q H2 e2⟩
/-! ### World._shown, .table_of, .head_table -/
theorem cap_one : ∀ c ∈ smallsS.cps.toList, ∃ d, Txt.upper ⟨#[c]⟩ = ⟨#[d]⟩ ∧ d ≠ c ∧ d ≠ 49 ∧ c ≠ 49 := by
  have h : (smallsS.cps.toList.all fun c => (Txt.upper ⟨#[c]⟩).cps.size == 1 && ((Txt.upper ⟨#[c]⟩).cps.getD 0 0 != c) && ((Txt.upper ⟨#[c]⟩).cps.getD 0 0 != 49) && (c != 49)) = true := by decide +kernel
  intro c hc
  have z := List.all_eq_true.mp h c hc
  simp only [Bool.and_eq_true, bne_iff_ne, beq_iff_eq] at z
  generalize Txt.upper ⟨#[c]⟩ = u at z
  obtain ⟨d, rfl⟩ := one_sign (x := u) z.1.1.1
  exact ⟨d, rfl, z.1.1.2, z.1.2, z.2⟩
theorem up_len {l : PySem.Str} (h : One l) : (Txt.upper l).length = 1 := by obtain ⟨c, rfl, hc⟩ := h.sign; obtain ⟨d, e, _⟩ := cap_one c hc; rw [e]; rfl
theorem up_ne {l : PySem.Str} (h : One l) : Txt.upper l ≠ l := by
  obtain ⟨c, rfl, hc⟩ := h.sign
  obtain ⟨d, e, n, _⟩ := cap_one c hc
  rw [e]
  intro z
  apply n
  have z2 : (#[d] : Array Nat) = #[c] := congrArg Str.cps z
  simpa using z2
theorem str_eq {x y : PySem.Str} : decide (V.str x = V.str y) = decide (x = y) := by
  by_cases h : x = y
  · simp [h]
  · rw [decide_eq_false h, decide_eq_false fun q => h (V.str.inj q)]
theorem evp_meth {σ : L2.St} {H : Hp} {te : TE} {C : Addr} {m : PySem.Str} {sp : Sp} {dx : Addr} {fs : List (PySem.Str × V)} {a : Addr} {E : XK} {vs : List V} {t : TA} {R : V → Hp → Prop} (h : Ev te σ H (.ref a)) (ha : H a = some (.ins C dx fs)) (hm : fs.lookup m = none) (hvs : EvA t σ H vs)
    (hs : ∀ H1, Ex H H1 → ∀ Q : VK, (∀ v H2, Ex H1 H2 → R v H2 → Q v H2) → ∀ E, sp (.ref a :: vs) H1 Q E) : EvP (tMeth C m sp [] E te t) σ H R := fun H1 e Q q => h H1 e _ fun H2 e2 => ⟨a, dx, fs, rfl, (e.trans e2) _ _ ha, hm, hvs H2 (e.trans e2) _ fun H3 e3 => by
    rw [List.append_nil]
    exact hs H3 ((e.trans e2).trans e3) _ (fun v H4 e4 r => q v H4 ((e2.trans e3).trans e4) r) E⟩
theorem el_listP {σ : L2.St} {H : Hp} {te : TE} {xs : List V} (h : EvP te σ H fun v H' => ∃ t, v = .ref t ∧ H' t = some (.lst xs)) : EvL (tCB (rListS K) (tCons te tNil)) σ H xs := fun H1 e Q q => h H1 e _ fun v H2 e2 ⟨t, hv, ht⟩ => by
  subst hv
  exact ⟨t, xs, rfl, .inl (sq_of ht), fun p hp => q p _ (fresh_back e2 hp) (e2.trans (Ex.new hp)) upd_same⟩
/-- a table of n steps -/
structure Tb (n : Nat) (U : List Nat) : Prop where
  len : U.length = n
  lt : ∀ k ∈ U, k < n
theorem Grd.tb {T : List Nat} (g : Grd T) : Tb T.length T := ⟨rfl, fun k hk => by
  obtain ⟨i, hi, rfl⟩ := List.getElem_of_mem hk
  have := g.ris.lt i hi
  simpa [hi] using this⟩
theorem thr_le (T : List Nat) (m : Nat) : thr T m ≤ T.length := List.findIdx_le_length
theorem Grd.backTb {T : List Nat} (g : Grd T) : Tb T.length (backT T) := ⟨by simp [backT], fun k hk => by
  obtain ⟨c, hc, rfl⟩ := List.mem_map.mp hk
  have h1 := thr_le T (c + 1)
  have h2 := g.ris.pos
  omega⟩
theorem Tb.comp {n : Nat} {U V : List Nat} (h : Tb n U) (h' : Tb n V) : Tb n (compT U V) := ⟨by simp [compT, h'.len], fun k hk => by
  obtain ⟨c, hc, rfl⟩ := List.mem_map.mp hk
  have hc2 := h'.lt c hc
  exact h.lt _ (getD_mem (by rw [h.len]; exact hc2))⟩
theorem Tb.range (n : Nat) : Tb n (List.range n) := ⟨by simp, fun k hk => List.mem_range.mp hk⟩
def headT (n : Nat) (Us : List (List Nat)) : List Nat := Us.foldr compT (List.range n)
theorem tb_fold {n : Nat} : ∀ {rs : List (List Nat)} {acc : List Nat}, (∀ U ∈ rs, Tb n U) → Tb n acc → Tb n (rs.foldl (fun acc U => compT U acc) acc)
  | [], _, _, h => h
  | U :: rs, acc, hU, h => tb_fold (rs := rs) (fun V hV => hU V (List.mem_cons_of_mem _ hV)) ((hU U List.mem_cons_self).comp h)
end

end Z
end
/-! Y6 -/
set_option linter.all false
set_option maxRecDepth 100000
set_option maxHeartbeats 4000000
noncomputable section
namespace Z
open PySem PySem.Spec PyProof.Rows L2 PySem.Froz Evl TS

/-! ### pairs of texts -/
abbrev Pr : Type := PySem.Str × PySem.Str
/-- tuples of two texts -/
def Prs (H : Hp) (ys : List V) (rows : List Pr) : Prop := ys.length = rows.length ∧ ∀ (i : Nat) (x y : PySem.Str), rows[i]? = some (x, y) → ∃ p, ys[i]? = some (.ref p) ∧ H p = some (.tup [.str x, .str y])
theorem Prs.mono {H H' : Hp} {ys : List V} {rows : List Pr} (h : Prs H ys rows) (e : Ex H H') : Prs H' ys rows := ⟨h.1, fun i x y hi => let ⟨p, a, b⟩ := h.2 i x y hi; ⟨p, a, e _ _ b⟩⟩
theorem Prs.nil {H : Hp} : Prs H [] [] := ⟨rfl, fun i x y h => by simp at h⟩
theorem Prs.snoc {H : Hp} {ys : List V} {rows : List Pr} {p : Addr} {x y : PySem.Str} (h : Prs H ys rows) (hp : H p = some (.tup [.str x, .str y])) : Prs H (ys ++ [.ref p]) (rows ++ [(x, y)]) := by
  refine ⟨by rw [List.length_append, List.length_append, h.1]; rfl, fun i u v hi => ?_⟩
  by_cases hl : i < rows.length
  · rw [List.getElem?_append_left hl] at hi
    rw [List.getElem?_append_left (by rw [h.1]; exact hl)]
    exact h.2 i u v hi
  · rw [List.getElem?_append_right (by omega)] at hi
    have : i - rows.length = 0 := by
      have := (List.getElem?_eq_some_iff.mp hi).1
      simp at this
      omega
    rw [this] at hi
    cases hi
    rw [List.getElem?_append_right (by rw [h.1]; omega), h.1, this]
    exact ⟨p, rfl, hp⟩
/-- a heap that is changed at one place that holds none of the tuples -/
theorem Prs.upd {H : Hp} {ys : List V} {rows : List Pr} {l : Addr} {xs zs : List V} (h : Prs H ys rows) (hl : H l = some (.lst xs)) : Prs (L2.upd H l (.lst zs)) ys rows := ⟨h.1, fun i x y hi => by
  obtain ⟨p, a, b⟩ := h.2 i x y hi
  exact ⟨p, a, by rw [upd_ne (fun z => by rw [z, hl] at b; cases b)]; exact b⟩⟩
theorem Prs.at {H : Hp} {ys : List V} {rows : List Pr} (h : Prs H ys rows) {i : Nat} {v : V} (hi : ys[i]? = some v) : ∃ x y p, rows[i]? = some (x, y) ∧ v = .ref p ∧ H p = some (.tup [.str x, .str y]) := by
  have hl := (List.getElem?_eq_some_iff.mp hi).1
  rw [h.1] at hl
  obtain ⟨p, a, b⟩ := h.2 i (rows[i]'hl).1 (rows[i]'hl).2 (List.getElem?_eq_getElem hl)
  rw [hi] at a
  exact ⟨_, _, p, List.getElem?_eq_getElem hl, Option.some.inj a, b⟩
/-- the parts that are told -/
def PartS (x : PySem.Str) : Bool := decide (x = "1") || inS smallsS x
theorem PartS.sign {x : PySem.Str} (h : PartS x = true) : ∃ c, x = ⟨#[c]⟩ ∧ (c = 49 ∨ c ∈ smallsS.cps.toList) := by
  unfold PartS at h
  rw [Bool.or_eq_true] at h
  rcases h with h | h
  · exact ⟨49, by rw [of_decide_eq_true h]; decide, .inl rfl⟩
  · obtain ⟨c, e, hc⟩ := One.sign h
    exact ⟨c, e, .inr hc⟩
theorem PartS.len {x : PySem.Str} (h : PartS x = true) : x.length = 1 := by obtain ⟨c, rfl, _⟩ := PartS.sign h; rfl
theorem sign_ok : ∀ c ∈ (49 :: smallsS.cps.toList), PyData.strOk ⟨#[c]⟩ = true := by decide +kernel
theorem PartS.ok {x : PySem.Str} (h : PartS x = true) : PyData.strOk x = true := by
  obtain ⟨c, rfl, hc⟩ := PartS.sign h
  exact sign_ok c (List.mem_cons.mpr hc)
theorem One.part {x : PySem.Str} (h : One x) : PartS x = true := by unfold PartS; rw [show inS smallsS x = true from h, Bool.or_true]
def RowsOk (rows : List Pr) : Prop := ∀ r ∈ rows, PartS r.1 = true ∧ PartS r.2 = true
/-! ### as data -/
def dP (r : Pr) : PyData := .tuple [.str r.1, .str r.2]
theorem shaped_P {r : Pr} (h : PyData.strOk r.1 = true ∧ PyData.strOk r.2 = true) : SeqAt.shaped (dP r) = true := by
  simp [SeqAt.shaped, dP, PyData.canLay0, PyData.canLayAll0, PyData.depth, PyData.depthAll, h.1, h.2]
theorem lay_P {rows : List Pr} (h : RowsOk rows) : PyData.canLayAll0 (rows.map dP) = true ∧ PyData.depthAll (rows.map dP) ≤ 1 := by
  induction rows with
  | nil => exact ⟨rfl, by simp [PyData.depthAll]⟩
  | cons r rs ih =>
    obtain ⟨i1, i2⟩ := ih fun q hq => h q (List.mem_cons_of_mem _ hq)
    obtain ⟨p1, p2⟩ := h r List.mem_cons_self
    have o1 := PartS.ok p1
    have o2 := PartS.ok p2
    refine ⟨?_, ?_⟩
    · show (PyData.canLay0 (dP r) && PyData.canLayAll0 (rs.map dP)) = true
      rw [i1]
      simp [dP, PyData.canLay0, PyData.canLayAll0, o1, o2]
    · rw [List.map_cons, PyData.depthAll]
      have : (dP r).depth = 1 := by simp [dP, PyData.depth, PyData.depthAll]
      omega
theorem shaped_Ps {rows : List Pr} (h : RowsOk rows) : SeqAt.shaped (.list (rows.map dP)) = true := by
  obtain ⟨h1, h2⟩ := lay_P h
  unfold SeqAt.shaped
  rw [Bool.and_eq_true]
  refine ⟨by simpa [PyData.canLay0] using h1, decide_eq_true ?_⟩
  show PyData.depthAll _ + 1 ≤ 64
  omega
theorem eqv_P (r q : Pr) : PyData.eqv (dP r) (dP q) = decide (r = q) := by
  obtain ⟨a, b⟩ := r
  obtain ⟨c, d⟩ := q
  by_cases h1 : a = c <;> by_cases h2 : b = d <;> simp [dP, PyData.eqv, PyData.eqvAll, h1, h2]
theorem any_P (r : Pr) (rows : List Pr) : ((rows.map dP).any fun z => PyData.eqv z (dP r)) = decide (r ∈ rows) := by
  induction rows with
  | nil => simp
  | cons q rs ih =>
    rw [List.map_cons, List.any_cons, ih, eqv_P]
    by_cases h : q = r
    · subst h; simp
    · have h' : ¬ r = q := fun z => h z.symm
      simp [h, h', List.mem_cons]
section
variable {K : PySem.W.Frag} {H : Hp}
theorem dp_P {p : Addr} {x y : PySem.Str} (h : H p = some (.tup [.str x, .str y])) : ∀ H1, Ex H H1 → Dp K H1 (.ref p) (dP (x, y)) := fun H1 e => .tup (st_of (e _ _ h)) (.cons (.str x) (.cons (.str y) .nil))
theorem dp_Ps : ∀ {ys : List V} {rows : List Pr}, Prs H ys rows → DpAll K H ys (rows.map dP)
  | [], [], _ => .nil
  | [], _ :: _, h => by have := h.1; cases this
  | _ :: _, [], h => by have := h.1; cases this
  | y :: ys, r :: rows, h => by
    obtain ⟨p, h1, h2⟩ := h.2 0 r.1 r.2 (by simp)
    have e : y = .ref p := by simpa using h1
    subst e
    refine .cons (dp_P h2 H (Ex.refl H)) (dp_Ps ⟨by simpa using h.1, fun i u v hi => ?_⟩)
    obtain ⟨q, g1, g2⟩ := h.2 (i + 1) u v (by simpa using hi)
    exact ⟨q, by simpa using g1, g2⟩
theorem rv_notInP {p b : Addr} {x y : PySem.Str} {ys : List V} {rows : List Pr} (hp : H p = some (.tup [.str x, .str y])) (ox : PartS x = true ∧ PartS y = true) (hb : SqL K H b ys) (hR : Prs H ys rows) (ok : RowsOk rows) : RV (rNotInD K) (.ref p) (.ref b) H (.bl (!decide ((x, y) ∈ rows))) := fun H1 e1 Q q =>
  ⟨dP (x, y), rows.map dP, dp_P hp H1 e1, .lst (ex_l e1 hb) (dp_Ps (hR.mono e1)), shaped_P ⟨PartS.ok ox.1, PartS.ok ox.2⟩, shaped_Ps ok, by rw [any_P]; exact q H1 (Ex.refl H1)⟩
end
/-! ### loops with any target -/
section
variable {K : PySem.W.Frag} {σ : L2.St} {H H1 : Hp} {ta tb' : TE} {tb tz : TS} {D : Ends} {wi : TI} {xs : List V} {i j : Nat} {g : TG} {r : R2} {z : V}
theorem s_forG (h : EvI wi σ H xs) (e1 : Ex H H1) (Pv : Nat → L2.St → Hp → Prop) (h0 : ∀ H2, Ex H1 H2 → Pv 0 σ H2)
    (hs : ∀ G i x σ' H', Ex H G → (∀ b, H b = none → H1 b ≠ none → G b = none) → Ex G H' → xs[i]? = some x → Pv i σ' H' → g x σ' H' fun σ2 H2 => tb { D with nx := fun σ3 H3 => Ex G H3 ∧ Pv (i + 1) σ3 H3, ct := fun σ3 H3 => Ex G H3 ∧ Pv (i + 1) σ3 H3, bk := D.nx } σ2 H2)
    (hd : ∀ σ' H', Ex H H' → Pv xs.length σ' H' → D.nx σ' H') : tFor wi g tb D σ H1 := h H1 e1 _ fun J H2 G e2 eG eG2 nG g0 => by
  refine ⟨fun i m σ' H' => i ≤ xs.length ∧ m = xs.length - i ∧ Ex G H' ∧ Pv i σ' H', ⟨xs.length, Nat.zero_le _, by simp, eG2, h0 H2 e2⟩, ?_⟩
  rintro i m σ' H' ⟨hi, rfl, c, p⟩
  cases q : xs[i]? with
  | some x =>
    have hlt := (List.getElem?_eq_some_iff.mp q).1
    refine .inr ⟨g0.go i x H' q c, fun σ2 H2 => Ex G H2 ∧ Pv (i + 1) σ2 H2, fun σ2 H2 p' => ⟨xs.length - (i + 1), by omega, hlt, rfl, p'⟩, fun y H2 hy => ?_⟩
    obtain ⟨rfl, rfl⟩ := g0.yld i x H' y H2 q c hy
    exact hs G i _ _ _ eG nG c q p
  | none =>
    have z : i = xs.length := Nat.le_antisymm hi (List.getElem?_eq_none_iff.mp q)
    subst z
    exact .inl ⟨g0.stop _ H' (Nat.le_refl _) c, hd _ _ (eG.trans c) p⟩
theorem q_forG (h : EvI wi σ H xs) (e1 : Ex H H1) (Pv : Nat → L2.St → Hp → Prop) (h0 : ∀ H2, Ex H1 H2 → Pv 0 σ H2)
    (hs : ∀ G i x σ' H', Ex H G → (∀ b, H b = none → H1 b ≠ none → G b = none) → Ex G H' → xs[i]? = some x → Pv i σ' H' → g x σ' H' fun σ2 H2 => tb { D with nx := fun σ3 H3 => Ex G H3 ∧ Pv (i + 1) σ3 H3, ct := fun σ3 H3 => Ex G H3 ∧ Pv (i + 1) σ3 H3, bk := tz D } σ2 H2)
    (hd : ∀ σ' H', Ex H H' → Pv xs.length σ' H' → tz D σ' H') : tSeq (tFor wi g tb) tz D σ H1 := s_forG (D := { D with nx := tz D }) h e1 Pv h0 hs hd
/-- a pair's two names -/
theorem g_pair {p : Addr} {u v : V} {Q : L2.St → Hp → Prop} (h : H p = some (.tup [u, v])) (q : Q ((σ.set i (some u)).set j (some v)) H) : gTup K 2 (gCons (gName i) (gCons (gName j) gNil)) (.ref p) σ H Q := ⟨p, _, rfl, st_of h, rfl, _, _, rfl, _, _, rfl, rfl, q⟩
/-- a new tuple, then what stands -/
theorem ev_opUV {ys : List V} {y : V} (ha : EvU ta σ H ys) (hb : ∀ H1, Ex H H1 → Ev tb' σ H1 y) (hr : ∀ q H1, H1 q = some (.tup ys) → Ex H H1 → RV r (.ref q) y H1 z) : Ev (tOp r ta tb') σ H z := fun H1 e Q k =>
  ha H1 e _ fun p H2 hp e2 h2 => hb H2 (e.trans e2) H2 (Ex.refl _) _ fun H3 e3 => hr p H3 (e3 _ _ h2) ((e.trans e2).trans e3) H3 (Ex.refl H3) Q fun H4 e4 => k H4 ((e2.trans e3).trans e4)
end
/-! ### _different -/
def ddP (rows : List Pr) : List Pr := rows.foldl (fun acc r => if r ∈ acc then acc else acc ++ [r]) []
theorem ddP_step {rows : List Pr} {i : Nat} {r : Pr} (h : rows[i]? = some r) : ddP (rows.take (i + 1)) = if r ∈ ddP (rows.take i) then ddP (rows.take i) else ddP (rows.take i) ++ [r] := by
  unfold ddP
  rw [List.take_add_one, h, Option.toList_some, List.foldl_append]
  rfl
theorem ddP_mem (rows : List Pr) : ∀ i, ∀ r ∈ ddP (rows.take i), r ∈ rows
  | 0 => fun r h => by simp [ddP] at h
  | i + 1 => fun r h => by
    cases e : rows[i]? with
    | none => rw [List.take_add_one, e, Option.toList_none, List.append_nil] at h; exact ddP_mem rows i r h
    | some q =>
      rw [ddP_step e] at h
      split at h
      · exact ddP_mem rows i r h
      · rcases List.mem_append.mp h with h | h
        · exact ddP_mem rows i r h
        · rw [List.mem_singleton.mp h]; exact List.mem_of_getElem? e
theorem ddP_len (rows : List Pr) : ∀ i, (ddP (rows.take i)).length ≤ i
  | 0 => by simp [ddP]
  | i + 1 => by
    have ih := ddP_len rows i
    cases e : rows[i]? with
    | none => rw [List.take_add_one, e, Option.toList_none, List.append_nil]; omega
    | some q =>
      rw [ddP_step e]
      split
      · omega
      · rw [List.length_append, List.length_singleton]; omega
theorem ddP_ok {rows : List Pr} (h : RowsOk rows) (i : Nat) : RowsOk (ddP (rows.take i)) := fun r hr => h r (ddP_mem rows i r hr)
def RetPs (rows : List Pr) (H : Hp) (Q : VK) : Prop := ∀ p zs H2, H p = none → Ex H H2 → H2 p = some (.tup zs) → Prs H2 zs rows → Q (.ref p) H2
section
variable {P : Program} {w : World} {K : PySem.W.Frag} {mg : PySem.Str → Option Value} {base : Heap} {f f1 f2 f3 CF : Addr} {fd fd1 fd2 fd3 : FuncData}
abbrev s_diff : Stmt := top 43
abbrev nDiff : List PySem.Str := ["pairs", "rows", "low", "high"]
def spDiff (K : PySem.W.Frag) : Sp := fun vs H Q _ => ∃ (a : Addr) (ys : List V) (rows : List Pr), vs = [.ref a] ∧ SqT K H a ys ∧ Prs H ys rows ∧ RowsOk rows ∧ rows.length ≤ 1000 ∧ RetPs (ddP rows) H Q
theorem scDiff : FnScope nDiff ["pairs"] (defScope s_diff) := ⟨rfl, rfl, rfl, by decide +kernel, rfl, by decide +kernel, by decide +kernel⟩
theorem ok_diff (W : Wd mg) (D : Dat K mg "_different" s_diff ["pairs"] f fd) : FnOk P w K mg base (L2.CX P w) 1 f fd ["pairs"] (spDiff K) := by
  refine D.F.okX scDiff (fun vs H Q E h => ?_) (fun cdv A outer s H vs Q E hr h => ?_)
  · obtain ⟨a, ys, rows, rfl, _⟩ := h
    rfl
  · obtain ⟨a, ys, rows, rfl, ha, hR, ok, hz, k⟩ := h
    have hu := hr.un
    have hu1 : (A.deeper (envOfC "_different" (defScope s_diff) s.heap.objs.size f cdv)).units + 65 < cLine := by omega
    refine ⟨_, pss_cons (ps_set (i := 1) scDiff.nd rfl (Or.inl rfl) (pe_lst pa_nil))
      (pss_cons (ps_for (passes_of rfl) rfl (pi_tup (pv 0)) (pg_tup rfl (pgs_cons (pg_name (i := 2) scDiff.nd rfl (Or.inl rfl)) (pgs_cons (pg_name (i := 3) scDiff.nd rfl (Or.inl rfl)) pgs_nil)))
        (pss_one (ps_if (pt_cmpR (op_notInD hu1) (pe_tup (pa_cons (pv 2) (pa_cons (pv 3) pa_nil))) (pv 1) (by rfl)) (pss_one (ps_expr (pe_bm PySem.F.plainAttrs_list PySem.F.slot_list_append PySem.F.type_list_append mt_append (pv 1) (pa_cons (pe_tup (pa_cons (pv 2) (pa_cons (pv 3) pa_nil))) pa_nil)))) pss_nil)))
      (pss_one (ps_ret (pe_tupleOf rfl W.tuple (pv 1))))), ?_⟩
    refine q_asgL (el_lst (vs := []) ea_nil (by decide)) fun l H1 hl e1 h1 => ?_
    refine q_forG (H := H) (ei_tup (K := K) (ev_var rfl) ha) e1 (fun i σ' H' => (∃ (v2 v3 : Option V) (zs : List V), σ' = [some (.ref a), some (.ref l), v2, v3] ∧ H' l = some (.lst zs) ∧ Prs H' zs (ddP (rows.take i))) ∧ Ex H H') (fun H2 e2 => ⟨⟨none, none, [], rfl, e2 _ _ h1, by simpa [ddP] using Prs.nil⟩, e1.trans e2⟩) ?_ ?_
    · rintro G i v σ' H' eG nG eG' hv ⟨⟨v2, v3, zs, rfl, hL, hZ⟩, eH⟩
      have nGl : G l = none := nG l hl (by rw [h1]; exact fun z => nomatch z)
      obtain ⟨x, y, p, hr1, rfl, hp⟩ := (hR.mono eH).at hv
      have okr := ok _ (List.mem_of_getElem? hr1)
      have st := ddP_step hr1
      have lz := ddP_len rows i
      have zl := hZ.1
      have il := (List.getElem?_eq_some_iff.mp hr1).1
      have okd := ddP_ok ok i
      refine g_pair hp ?_
      rw [st]
      generalize ddP (rows.take i) = W0 at hZ lz zl okd
      refine s_when (b := !decide ((x, y) ∈ W0)) (et_test (ev_opUV (eu_tup (ea_cons (ev_var rfl) (ea_cons (ev_var rfl) ea_nil)) (by show 2 ≤ 100000; decide)) (fun _ _ => ev_var rfl) fun q H2 hq e2 => rv_notInP (K := K) hq okr (sq_of (e2 _ _ hL)) (hZ.mono e2) okd)) (fun hb H2 e2 => ?_) fun hb H2 e2 => ?_
      · have nf : ¬ (x, y) ∈ W0 := by simpa using hb
        rw [if_neg nf]
        refine s_appU (e2 _ _ hL) (ev_var rfl) (eu_tup (vs := [.str x, .str y]) (ea_cons (ev_var rfl) (ea_cons (ev_var rfl) ea_nil)) (by show 2 ≤ 100000; decide)) (by omega) fun q H3 hq e3 h3 => ⟨Ex.mut ((eG'.trans e2).trans e3) nGl, ⟨_, _, _, rfl, upd_same, ?_⟩, Ex.mut ((eH.trans e2).trans e3) hl⟩
        exact ((hZ.mono (e2.trans e3)).snoc h3).upd ((e2.trans e3) _ _ hL)
      · have yf : (x, y) ∈ W0 := by simpa using hb
        rw [if_pos yf]
        exact ⟨eG'.trans e2, ⟨_, _, _, rfl, e2 _ _ hL, hZ.mono e2⟩, eH.trans e2⟩
    · rintro σ' H' eH' ⟨⟨v2, v3, zs, rfl, hL, hZ⟩, eH⟩
      have ll : ys.length = rows.length := hR.1
      rw [ll, List.take_length] at hZ
      exact s_retU (eu_tupL (K := K) (ev_var rfl) (sq_of hL)) fun p H3 hp e3 h3 => k p zs H3 (fresh_back eH hp) (eH.trans e3) h3 (hZ.mono e3)
end
end Z
end
/-! Y7 -/
set_option linter.all false
set_option maxRecDepth 100000
set_option maxHeartbeats 4000000
noncomputable section
namespace Z
open PySem PySem.Spec PyProof.Rows L2 PySem.Froz Evl TS

theorem inV_str (y : PySem.Str) : ∀ fs : List PySem.Str, inV (.str y) (fs.map V.str) = decide (y ∈ fs)
  | [] => rfl
  | f :: fs => by
    have ih := inV_str y fs
    unfold inV at ih ⊢
    rw [List.map_cons, List.any_cons, ih]
    have e : eqV (.str f) (.str y) = decide (f = y) := rfl
    rw [e]
    by_cases h : f = y
    · simp [h]
    · have h' : ¬ y = f := fun q => h q.symm
      simp [h, h', List.mem_cons]
theorem flat_strs (fs : List PySem.Str) : (fs.map V.str).all flatV = true := by
  rw [List.all_eq_true]
  intro v hv
  obtain ⟨k, _, rfl⟩ := List.mem_map.mp hv
  rfl
/-- the paired dials -/
def PdS (pr : PySem.Str) : Prop := ∀ c ∈ pr.cps.toList, c ∈ smallsS.cps.toList
theorem PdS.at {pr : PySem.Str} (h : PdS pr) {i : Nat} {x : V} (hx : (signsV pr)[i]? = some x) : ∃ l, x = .str l ∧ One l ∧ l ∈ TS.signs pr := by
  obtain ⟨s, hs, rfl⟩ := List.mem_map.mp (List.mem_of_getElem? hx)
  refine ⟨s, rfl, ?_, hs⟩
  obtain ⟨c, hc, rfl⟩ := List.mem_map.mp hs
  rw [One, inS_one]
  exact decide_eq_true (h c hc)
/-- told pairs are both paired or both not -/
def FitS (rows : List Pr) (pr : PySem.Str) : Prop := ∀ r ∈ rows, r.1 = "1" ∨ r.2 = "1" ∨ inS pr r.1 = inS pr r.2
section
variable {P : Program} {w : World} {K : PySem.W.Frag} {mg : PySem.Str → Option Value} {base : Heap} {f f1 f2 f3 CF : Addr} {fd fd1 fd2 fd3 : FuncData}
theorem rv_part {H : Hp} {s x : PySem.Str} (h : x.length = 1) : RV rInS (.str x) (.str s) H (.bl (inS s x)) := fun H1 e Q q => by
  obtain ⟨c, rfl⟩ := one_sign h
  exact ⟨c, s, rfl, rfl, by rw [← inS_one]; exact q H1 (Ex.refl H1)⟩
abbrev s_is_part : Stmt := top 41
theorem scPart : FnScope ["text"] ["text"] (defScope s_is_part) := ⟨rfl, rfl, rfl, by decide +kernel, rfl, by decide +kernel, by decide +kernel⟩
theorem ok_is_part (D : Dat K mg "is_part" s_is_part ["text"] f fd) (D1 : Dat K mg "is_small" s_is_small ["text"] f1 fd1) (G1 : FnOk P w K mg base (L2.CX P w) 1 f1 fd1 ["text"] (spB (inS smallsS))) : FnOk P w K mg base (L2.CX P w) 2 f fd ["text"] (spB PartS) := by
  refine D.F.okX scPart (fun vs H Q E h => ?_) (fun cdv A outer s H vs Q E hr h => ?_)
  · obtain ⟨x, rfl, _⟩ := h
    rfl
  · obtain ⟨x, rfl, hz, k⟩ := h
    refine ⟨_, pss_one (ps_ret (pe_or (pe_cmpR op_eq (pv 0) pe_str (nomark _)) (pe_one (pe_call G1 hr rfl D1.g D1.k D1.b .nil pas0 (pa_cons (pv 0) pa_nil))))), ?_⟩
    exact s_ret (ev_is (ev_orV (a := decide (x = "1")) (b := inS smallsS x) (ev_is (ev_op (ev_var rfl) ev_c (rv_eq rfl)) (by congr 1; by_cases h : x = "1" <;> simp [h])) fun _ => ev_call (ea_cons (ev_var rfl) ea_nil) (sv_B hz)) rfl) fun H1 e => k H1 e
abbrev s_checkT : Stmt := top 44
abbrev nCheckT : List PySem.Str := ["pairs", "paired", "most", "letter", "low", "high"]
def spCheckT (K : PySem.W.Frag) : Sp := fun vs H Q _ => ∃ (a : Addr) (ys : List V) (rows : List Pr) (pr : PySem.Str), vs = [.ref a, .str pr, .int 24] ∧ SqT K H a ys ∧ Prs H ys rows ∧ RowsOk rows ∧ rows.length ≤ 24 ∧ PdS pr ∧ pr.length ≤ 1000 ∧ FitS rows pr ∧ RetV .non H Q
theorem scCheckT : FnScope nCheckT ["pairs", "paired", "most"] (defScope s_checkT) := ⟨rfl, rfl, rfl, by decide +kernel, rfl, by decide +kernel, by decide +kernel⟩
theorem ok_checkT (W : Wd mg) (D : Dat K mg "_check_told" s_checkT ["pairs", "paired", "most"] f fd) (D1 : Dat K mg "is_small" s_is_small ["text"] f1 fd1) (G1 : FnOk P w K mg base (L2.CX P w) 1 f1 fd1 ["text"] (spB (inS smallsS)))
    (D2 : Dat K mg "_different" s_diff ["pairs"] f2 fd2) (G2 : FnOk P w K mg base (L2.CX P w) 1 f2 fd2 ["pairs"] (spDiff K)) (D3 : Dat K mg "is_part" s_is_part ["text"] f3 fd3) (G3 : FnOk P w K mg base (L2.CX P w) 2 f3 fd3 ["text"] (spB PartS)) : FnOk P w K mg base (L2.CX P w) 3 f fd ["pairs", "paired", "most"] (spCheckT K) := by
  refine D.F.okX scCheckT (fun vs H Q E h => ?_) (fun cdv A outer s H vs Q E hr h => ?_)
  · obtain ⟨a, ys, rows, pr, rfl, _⟩ := h
    rfl
  · obtain ⟨a, ys, rows, pr, rfl, ha, hR, ok, hz, hp, hpz, fit, k⟩ := h
    have hr1 : Room 1 _ := hr.mono (by decide)
    refine ⟨_, pss_cons (ps_for (passes_of rfl) rfl (pi_str (pv 1)) (pg_name (i := 3) scCheckT.nd rfl (Or.inl rfl)) (pss_one (ps_if (pt_not (pt_val (pe_call G1 hr1 rfl D1.g D1.k D1.b .nil pas0 (pa_cons (pv 3) pa_nil)))) pss_no pss_nil)))
      (pss_cons (ps_for (passes_of rfl) rfl (pi_tup (pv 0)) (pg_tup rfl (pgs_cons (pg_name (i := 4) scCheckT.nd rfl (Or.inl rfl)) (pgs_cons (pg_name (i := 5) scCheckT.nd rfl (Or.inl rfl)) pgs_nil)))
        (pss_one (ps_if (PW.pt (pw_or (pt_not (pt_val (pe_call G3 hr rfl D3.g D3.k D3.b .nil pas0 (pa_cons (pv 4) pa_nil)))) (pw_or1 (pt_not (pt_val (pe_call G3 hr rfl D3.g D3.k D3.b .nil pas0 (pa_cons (pv 5) pa_nil))))))) pss_no pss_nil)))
      (pss_cons (ps_for (passes_of rfl) rfl (pi_tup (pv 0)) (pg_tup rfl (pgs_cons (pg_name (i := 4) scCheckT.nd rfl (Or.inl rfl)) (pgs_cons (pg_name (i := 5) scCheckT.nd rfl (Or.inl rfl)) pgs_nil)))
        (pss_one (ps_if (PW.pt (pw_and (pt_cmpR op_notIn_seq pe_str (pe_tup (pa_cons (pv 4) (pa_cons (pv 5) pa_nil))) (by rfl)) (pw_and1 (pt_cmpR op_ne (pe_cmpR op_inS (pv 4) (pv 1) (by rfl)) (pe_cmpR op_inS (pv 5) (pv 1) (by rfl)) (nomark _))))) pss_no pss_nil)))
      (pss_one (ps_if (pt_cmpR op_gt (pe_callB call_len_seq (by rfl) W.len PySem.boot_len (pa_cons (pe_call G2 hr1 rfl D2.g D2.k D2.b .nil pas0 (pa_cons (pv 0) pa_nil)) pa_nil)) (pv 2) (nomark _)) pss_no pss_nil)))), ?_⟩
    refine q_forI (H := H) (ei_str (x := pr) (ev_var rfl)) (Ex.refl H) (fun _ _ σ' H' => (∃ v, σ' = [some (.ref a), some (.str pr), some (.int 24), v, none, none]) ∧ Ex H H') (fun _ H2 _ e2 _ => ⟨⟨none, rfl⟩, e2⟩) ?_ ?_
    · rintro G i x σ' H' eG eG' hx ⟨⟨v, rfl⟩, e⟩
      obtain ⟨l, rfl, hl, _⟩ := hp.at hx
      have hl1 := hl.len
      exact s_when (b := false) (et_is (et_not (et_B (ev_call (vs := [.str l]) (ea_cons (ev_var rfl) ea_nil) (sv_B (by omega))))) (by rw [show inS smallsS l = true from hl]; rfl)) (fun h => nomatch h) fun _ H2 e2 => ⟨eG'.trans e2, ⟨_, rfl⟩, e.trans e2⟩
    · rintro G σ' H' eG eG' ⟨⟨v, rfl⟩, e⟩
      refine q_forG (H := H') (ei_tup (K := K) (ev_var rfl) (ex_t e ha)) (Ex.refl _) (fun _ σ' H2 => (∃ v4 v5 : Option V, σ' = [some (.ref a), some (.str pr), some (.int 24), v, v4, v5]) ∧ Ex H' H2) (fun H2 e2 => ⟨⟨_, _, rfl⟩, e2⟩) ?_ ?_
      · rintro G2 i u σ2 H2 eG2 nG2 eG2' hu ⟨⟨v4, v5, rfl⟩, e2⟩
        obtain ⟨x, y, p, hr1, rfl, hp1⟩ := (hR.mono (e.trans e2)).at hu
        obtain ⟨o1, o2⟩ := ok _ (List.mem_of_getElem? hr1)
        have l1 : x.length = 1 := PartS.len o1
        have l2 : y.length = 1 := PartS.len o2
        refine g_pair hp1 ?_
        exact s_when (b := false) (et_is (et_or (a := false) (b := false) (et_is (et_not (et_B (ev_call (vs := [.str x]) (ea_cons (ev_var rfl) ea_nil) (sv_B (by omega))))) (by rw [show PartS x = true from o1]; rfl)) fun _ => et_is (et_not (et_B (ev_call (vs := [.str y]) (ea_cons (ev_var rfl) ea_nil) (sv_B (by omega))))) (by rw [show PartS y = true from o2]; rfl)) rfl) (fun h => nomatch h) fun _ H3 e3 => ⟨eG2'.trans e3, ⟨_, _, rfl⟩, e2.trans e3⟩
      · rintro σ2 H2 eH2 ⟨⟨v4, v5, rfl⟩, e2⟩
        refine q_forG (H := H2) (ei_tup (K := K) (ev_var rfl) (ex_t (e.trans e2) ha)) (Ex.refl _) (fun _ σ' H3 => (∃ v4 v5 : Option V, σ' = [some (.ref a), some (.str pr), some (.int 24), v, v4, v5]) ∧ Ex H2 H3) (fun H3 e3 => ⟨⟨_, _, rfl⟩, e3⟩) ?_ ?_
        · rintro G3 i u σ3 H3 eG3 nG3 eG3' hu ⟨⟨v4, v5, rfl⟩, e3⟩
          obtain ⟨x, y, p, hr1, rfl, hp1⟩ := (hR.mono ((e.trans e2).trans e3)).at hu
          obtain ⟨o1, o2⟩ := ok _ (List.mem_of_getElem? hr1)
          have fi := fit _ (List.mem_of_getElem? hr1)
          have l1 : x.length = 1 := PartS.len o1
          have l2 : y.length = 1 := PartS.len o2
          refine g_pair hp1 ?_
          refine s_when (b := false) (et_is (et_and (a := !decide (("1" : PySem.Str) ∈ [x, y])) (b := !decide (inS pr x = inS pr y)) (et_test (ev_is (ev_opU (r := rIn K true) (x := .str "1") (z := .bl (!inV (.str "1") ([x, y].map V.str))) ev_c (eu_tup (vs := [x, y].map V.str) (ea_cons (ev_var rfl) (ea_cons (ev_var rfl) ea_nil)) (by show 2 ≤ 100000; decide)) fun q H4 hq e4 => rv_niT (K := K) (st_of hq) rfl (flat_strs [x, y])) (by rw [inV_str]))) fun _ => et_test (ev_is (ev_op (ev_op (ev_var rfl) (ev_var rfl) (rv_part l1)) (ev_op (ev_var rfl) (ev_var rfl) (rv_part l2)) (rv_ne rfl)) (by simp))) ?_) (fun h => nomatch h) fun _ H4 e4 => ⟨eG3'.trans e4, ⟨_, _, rfl⟩, e3.trans e4⟩
          rcases fi with h | h | h
          · have h : x = "1" := h
            rw [decide_eq_true (by rw [h]; simp)]; rfl
          · have h : y = "1" := h
            rw [decide_eq_true (by rw [h]; simp)]; rfl
          · rw [decide_eq_true h, Bool.not_true, Bool.and_false]
        · rintro σ3 H3 eH3 ⟨⟨v4, v5, rfl⟩, e3⟩
          have e03 := (e.trans e2).trans e3
          have ll := ddP_len rows rows.length
          rw [List.take_length] at ll
          have el : Ev (tCB (rLenS K) (tCons (tCall (spDiff K) [] E0 (tCons (tVar 0) tNil)) tNil)) [some (.ref a), some (.str pr), some (.int 24), v, v4, v5] H3 (.int ((ddP rows).length : Int)) := fun H4 e4 Q2 q2 => by
            refine ⟨.ref a, rfl, ?_⟩
            refine ⟨a, ys, rows, rfl, ex_t (e03.trans e4) ha, hR.mono (e03.trans e4), ok, by omega, fun p zs H5 hp5 e5 h5 hZ => ?_⟩
            exact ⟨p, zs, rfl, Or.inr (st_of h5), by rw [hZ.1]; exact q2 H5 e5⟩
          exact s_when (b := false) (et_is (ev_ltI (g := fun i j => decide (i > j)) el (ev_var rfl)) (decide_eq_false (by omega))) (fun h => nomatch h) fun _ H4 e4 => k H4 (e03.trans e4)
/-! ### _spread -/
def missing (zs fs : List PySem.Str) : Nat := (zs.filter fun y => decide (y ∉ fs)).length
theorem missing_le (fs : List PySem.Str) (y : PySem.Str) : ∀ zs : List PySem.Str, missing zs (fs ++ [y]) ≤ missing zs fs
  | [] => Nat.le_refl _
  | z :: zs => by
    have ih := missing_le fs y zs
    unfold missing at ih ⊢
    rw [List.filter_cons, List.filter_cons]
    by_cases h : z ∈ fs
    · rw [if_neg (by simp [h]), if_neg (by simp [h])]
      exact ih
    · rw [if_pos (c := decide (z ∉ fs) = true) (by simpa using h), List.length_cons]
      split
      · rw [List.length_cons]; omega
      · omega
theorem missing_lt {fs : List PySem.Str} {y : PySem.Str} (hy : y ∉ fs) : ∀ {zs : List PySem.Str}, y ∈ zs → missing zs (fs ++ [y]) + 1 ≤ missing zs fs
  | [], h => by simp at h
  | z :: zs, h => by
    have mle := missing_le fs y zs
    by_cases h2 : z = y
    · subst h2
      unfold missing at mle ⊢
      rw [List.filter_cons, List.filter_cons, if_neg (by simp), if_pos (by simpa using hy), List.length_cons]
      omega
    · have hz : y ∈ zs := by
        rcases List.mem_cons.mp h with e | e
        · exact absurd e.symm h2
        · exact e
      have ih := missing_lt hy hz
      unfold missing at ih ⊢
      by_cases h3 : z ∈ fs
      · rw [List.filter_cons, List.filter_cons, if_neg (by simp [h3]), if_neg (by simp [h3])]
        exact ih
      · rw [List.filter_cons, List.filter_cons, if_pos (by simp [h3, h2]), if_pos (by simp [h3]), List.length_cons, List.length_cons]
        omega
theorem missing_all (zs fs : List PySem.Str) : missing zs fs ≤ zs.length := List.length_filter_le _ _
abbrev s_spread : Stmt := top 45
abbrev nSpread : List PySem.Str := ["low", "rows", "found", "came_from", "at", "one", "other"]
/-- a new list of texts, in a new tuple -/
def RetSp (H : Hp) (Q : VK) : Prop := ∀ p r t (fs : List PySem.Str) H2, H p = none → H r = none → Ex H H2 → H2 p = some (.tup [.ref r, .ref t]) → H2 r = some (.lst (fs.map V.str)) → Q (.ref p) H2
def spSpread (K : PySem.W.Frag) : Sp := fun vs H Q _ => ∃ (a : Addr) (ys : List V) (rows : List Pr) (x : PySem.Str), vs = [.str x, .ref a] ∧ SqT K H a ys ∧ Prs H ys rows ∧ rows.length ≤ 1000 ∧ RetSp H Q
theorem scSpread : FnScope nSpread ["low", "rows"] (defScope s_spread) := ⟨rfl, rfl, rfl, by decide +kernel, rfl, by decide +kernel, by decide +kernel⟩
theorem ok_spread (W : Wd mg) (D : Dat K mg "_spread" s_spread ["low", "rows"] f fd) : FnOk P w K mg base (L2.CX P w) 1 f fd ["low", "rows"] (spSpread K) := by
  refine D.F.okX scSpread (fun vs H Q E h => ?_) (fun cdv A outer s H vs Q E hr h => ?_)
  · obtain ⟨a, ys, rows, x, rfl, _⟩ := h
    rfl
  · obtain ⟨a, ys, rows, x, rfl, ha, hR, hz, k⟩ := h
    refine ⟨_, pss_cons (ps_set (i := 2) scSpread.nd rfl (Or.inl rfl) (pe_lst (pa_cons (pv 0) pa_nil)))
      (pss_cons (ps_set (i := 3) scSpread.nd rfl (Or.inl rfl) (pe_lst (pa_cons pe_int pa_nil)))
      (pss_cons (ps_set (i := 4) scSpread.nd rfl (Or.inl rfl) pe_int)
      (pss_cons (ps_while (passes_of rfl) (pt_cmpR op_lt (pv 4) (pe_callB call_len_seq (by rfl) W.len PySem.boot_len (pa_cons (pv 2) pa_nil)) (nomark _))
        (pss_cons (ps_for (passes_of rfl) rfl (pi_tup (pv 1)) (pg_tup rfl (pgs_cons (pg_name (i := 5) scSpread.nd rfl (Or.inl rfl)) (pgs_cons (pg_name (i := 6) scSpread.nd rfl (Or.inl rfl)) pgs_nil)))
          (pss_one (ps_if (PW.pt (pw_and (pt_cmpR op_eq (pv 5) (pe_ix ix_list (pv 2) (pv 4) (fun _ _ => rfl)) (nomark _)) (pw_and1 (pt_cmpR op_notIn_seq (pv 6) (pv 2) (by rfl)))))
            (pss_cons (ps_expr (pe_bm PySem.F.plainAttrs_list PySem.F.slot_list_append PySem.F.type_list_append mt_append (pv 2) (pa_cons (pv 6) pa_nil)))
            (pss_one (ps_expr (pe_bm PySem.F.plainAttrs_list PySem.F.slot_list_append PySem.F.type_list_append mt_append (pv 3) (pa_cons (pv 4) pa_nil))))) pss_nil)))
        (pss_one (ps_aug (i := 4) scSpread.nd rfl (Or.inl rfl) pe_int ip_add))))
      (pss_one (ps_ret (pe_tup (pa_cons (pv 2) (pa_cons (pv 3) pa_nil)))))))), ?_⟩
    refine q_asgL (el_lst (vs := [.str x]) (ea_cons (ev_var rfl) ea_nil) (by show 1 ≤ 100000; decide)) fun l1 H1 hl1 e1 h1 => ?_
    refine q_asgL (el_lst (vs := [.int 0]) (ea_cons ev_c ea_nil) (by decide)) fun l2 H2 hl2 e2 h2 => ?_
    refine q_asg ev_c fun H3 e3 => ?_
    have n12 : l1 ≠ l2 := fun z => by rw [z] at h1; rw [h1] at hl2; cases hl2
    have hHl2 : H l2 = none := fresh_back e1 hl2
    refine q_while (fun m σ' H' => ∃ (i : Nat) (fs : List PySem.Str) (cs : List V) (v5 v6 : Option V), σ' = [some (.str x), some (.ref a), some (.ref l1), some (.ref l2), some (.int (i : Int)), v5, v6] ∧ H' l1 = some (.lst (fs.map V.str)) ∧ H' l2 = some (.lst cs) ∧ cs.length = fs.length ∧ fs.length + missing (rows.map (·.2)) fs ≤ rows.length + 1 ∧ i ≤ fs.length ∧ m = rows.length + 1 - i ∧ Ex H H')
      (rows.length + 1) ⟨0, [x], [.int 0], none, none, rfl, (e2.trans e3) _ _ h1, e3 _ _ h2, rfl, by have z := missing_all (rows.map (·.2)) [x]; rw [List.length_map] at z; rw [List.length_singleton]; omega, Nat.zero_le _, rfl, (e1.trans e2).trans e3⟩ ?_
    rintro m σ' H' ⟨i, fs, cs, v5, v6, rfl, hf, hc, hcl, hmi, hi, rfl, eH⟩
    refine ⟨decide ((i : Int) < (fs.length : Int)), ev_ltI (g := fun i j => decide (i < j)) (ev_var rfl) (ev_is (ev_len (K := K) (ev_var rfl) (sq_of hf)) (by rw [List.length_map])), fun hb H4 e4 => ?_, fun hb H4 e4 => ?_⟩
    · have hlt : i < fs.length := by have := of_decide_eq_true hb; omega
      refine ⟨fun σ2 H5 => ∃ (fs : List PySem.Str) (cs : List V) (v5 v6 : Option V), σ2 = [some (.str x), some (.ref a), some (.ref l1), some (.ref l2), some (.int ((i + 1 : Nat) : Int)), v5, v6] ∧ H5 l1 = some (.lst (fs.map V.str)) ∧ H5 l2 = some (.lst cs) ∧ cs.length = fs.length ∧ fs.length + missing (rows.map (·.2)) fs ≤ rows.length + 1 ∧ i + 1 ≤ fs.length ∧ Ex H H5, ?_, ?_⟩
      · rintro σ2 H5 ⟨fs2, cs2, w5, w6, rfl, g1, g2, g3, g4, g5, g6⟩
        exact ⟨rows.length + 1 - (i + 1), by omega, i + 1, fs2, cs2, w5, w6, rfl, g1, g2, g3, g4, g5, rfl, g6⟩
      · have f0 : fs[i]? = some (fs[i]'hlt) := List.getElem?_eq_getElem hlt
        generalize fs[i]'hlt = cur at f0
        refine q_forG (H := H) (ei_tup (K := K) (ev_var rfl) ha) (eH.trans e4) (fun j σ' H' => (∃ (fs : List PySem.Str) (cs : List V) (v5 v6 : Option V), σ' = [some (.str x), some (.ref a), some (.ref l1), some (.ref l2), some (.int (i : Int)), v5, v6] ∧ H' l1 = some (.lst (fs.map V.str)) ∧ H' l2 = some (.lst cs) ∧ cs.length = fs.length ∧ fs.length + missing (rows.map (·.2)) fs ≤ rows.length + 1 ∧ fs[i]? = some cur) ∧ Ex H H')
          (fun H5 e5 => ⟨⟨fs, cs, v5, v6, rfl, (e4.trans e5) _ _ hf, (e4.trans e5) _ _ hc, hcl, hmi, f0⟩, (eH.trans e4).trans e5⟩) ?_ ?_
        · rintro G j u σ2 H5 eG nG eG' hu ⟨⟨gs, ds, w5, w6, rfl, g1, g2, g3, g4, g5⟩, eH5⟩
          have nG1 : G l1 = none := nG l1 hl1 (by rw [e4 _ _ hf]; exact fun z => nomatch z)
          have nG2 : G l2 = none := nG l2 hHl2 (by rw [e4 _ _ hc]; exact fun z => nomatch z)
          obtain ⟨y, z, p, hr1, rfl, hp⟩ := (hR.mono eH5).at hu
          have hzm : z ∈ rows.map (·.2) := List.mem_map.mpr ⟨_, List.mem_of_getElem? hr1, rfl⟩
          refine g_pair hp ?_
          have at_ : atI (gs.map V.str) (i : Int) = some (.str cur) := by
            have z : (gs.map V.str)[i]? = some (.str cur) := by rw [List.getElem?_map, g5]; rfl
            rw [atI_nat]; exact z
          refine s_when (b := decide (y = cur) && !decide (z ∈ gs)) (et_and (et_test (ev_is (ev_op (ev_var rfl) (ev_op (ev_var rfl) (ev_var rfl) (rv_ixL (K := K) (sq_of g1) at_)) (rv_eq rfl)) (by rw [str_eq]))) fun _ => et_test (ev_is (ev_op (ev_var rfl) (ev_var rfl) (rv_niL (K := K) (sq_of g1) rfl (flat_strs gs))) (by rw [inV_str]))) (fun hb H6 e6 => ?_) fun hb H6 e6 => ?_
          · rw [Bool.and_eq_true] at hb
            have nz : z ∉ gs := by simpa using hb.2
            have ml := missing_lt nz hzm
            refine q_app (e6 _ _ g1) (ev_var rfl) (ev_var rfl) (by rw [List.length_map]; omega) fun H7 e7 => ?_
            have e67 := e6.trans e7
            have c7 : (L2.upd H7 l1 (.lst (gs.map V.str ++ [.str z]))) l2 = some (.lst ds) := by rw [upd_ne (Ne.symm n12)]; exact e67 _ _ g2
            refine s_app c7 (ev_var rfl) (ev_var rfl) (by omega) fun H8 e8 => ⟨Ex.mut ((Ex.mut (eG'.trans e67) nG1).trans e8) nG2, ⟨gs ++ [z], ds ++ [.int (i : Int)], _, _, rfl, ?_, upd_same, by rw [List.length_append, List.length_append, g3]; rfl, by rw [List.length_append, List.length_singleton]; omega, ?_⟩, Ex.mut ((Ex.mut (eH5.trans e67) hl1).trans e8) hHl2⟩
            · rw [upd_ne n12, e8 _ _ upd_same, List.map_append]; rfl
            · rw [List.getElem?_append_left (List.getElem?_eq_some_iff.mp g5).1]; exact g5
          · exact ⟨eG'.trans e6, ⟨gs, ds, _, _, rfl, e6 _ _ g1, e6 _ _ g2, g3, g4, g5⟩, eH5.trans e6⟩
        · rintro σ2 H5 eH5 ⟨⟨gs, ds, w5, w6, rfl, g1, g2, g3, g4, g5⟩, eH5'⟩
          have hlt2 := (List.getElem?_eq_some_iff.mp g5).1
          exact s_aug rfl ev_c fun H6 e6 => ⟨gs, ds, _, _, rfl, e6 _ _ g1, e6 _ _ g2, g3, g4, hlt2, eH5'.trans e6⟩
    · exact s_retU (eu_tup (vs := [.ref l1, .ref l2]) (ea_cons (ev_var rfl) (ea_cons (ev_var rfl) ea_nil)) (by show 2 ≤ 100000; decide)) fun p H5 hp e5 h5 => k p l1 l2 fs H5 (fresh_back (eH.trans e4) hp) hl1 ((eH.trans e4).trans e5) h5 ((e4.trans e5) _ _ hf)
end
end Z
end
/-! Y8 -/
set_option linter.all false
set_option maxRecDepth 100000
set_option maxHeartbeats 4000000
noncomputable section
namespace Z
open PySem PySem.Spec PyProof.Rows L2 PySem.Froz Evl TS

theorem join_signs : ∀ cs : List Nat, Str.join Str.empty (cs.map fun c => (⟨#[c]⟩ : PySem.Str)) = ⟨cs.toArray⟩
  | [] => rfl
  | [c] => rfl
  | c :: d :: cs => by
    have ih := join_signs (d :: cs)
    show (⟨#[c]⟩ : PySem.Str) ++ Str.empty ++ Str.join Str.empty ((d :: cs).map fun c => (⟨#[c]⟩ : PySem.Str)) = _
    rw [ih]
    show (⟨(#[c] ++ #[]) ++ (d :: cs).toArray⟩ : PySem.Str) = _
    congr 1
    simp
theorem at_zero {α : Type} (x : α) (xs : List α) : atI (x :: xs) 0 = some x := by
  show atI (x :: xs) ((0 : Nat) : Int) = _
  rw [atI_nat]
  rfl
theorem nodup_sub_len : ∀ {xs ys : List PySem.Str}, xs.Nodup → (∀ k ∈ xs, k ∈ ys) → xs.length ≤ ys.length
  | [], _, _, _ => Nat.zero_le _
  | x :: xs, ys, nd, h => by
    obtain ⟨h1, h2⟩ := List.nodup_cons.mp nd
    have hx := h x List.mem_cons_self
    have ih := nodup_sub_len (ys := ys.erase x) h2 fun k m => (List.mem_erase_of_ne fun (q : k = x) => h1 (by rw [← q]; exact m)).mpr (h k (List.mem_cons_of_mem _ m))
    rw [List.length_erase_of_mem hx] at ih
    have : 0 < ys.length := List.length_pos_of_mem hx
    rw [List.length_cons]
    omega
theorem wordOrd_mem {ss : List PySem.Str} {k : PySem.Str} (m : k ∈ wordOrd ss) : k ∈ ss := by
  by_cases h : ∃ ys, WordOrd ss ys
  · obtain ⟨ys, h⟩ := h
    rw [← h.eq] at m
    exact (h.2 k).mp m
  · unfold wordOrd at m
    rw [dif_neg h] at m
    cases m
theorem wordOrd_nd (ss : List PySem.Str) : (wordOrd ss).Nodup := by
  by_cases h : ∃ ys, WordOrd ss ys
  · obtain ⟨ys, h⟩ := h
    rw [← h.eq]
    show ys.Pairwise fun a b => a ≠ b
    exact h.1.imp fun {a b} r => fun q => wlt_irr a (by rw [← q] at r; exact r)
  · unfold wordOrd
    rw [dif_neg h]
    exact List.nodup_nil
theorem wordOrd_len (ss : List PySem.Str) {n : Nat} (hz : ss.length ≤ n) : (wordOrd ss).length ≤ n := Nat.le_trans (nodup_sub_len (wordOrd_nd ss) fun k m => wordOrd_mem m) hz
theorem nd_getD {xs : List PySem.Str} (nd : xs.Nodup) {i k : Nat} (hi : i < xs.length) (hk : k < xs.length) (e : xs.getD i Str.empty = xs.getD k Str.empty) : i = k := by
  rw [List.getD_eq_getElem?_getD, List.getElem?_eq_getElem hi, List.getD_eq_getElem?_getD, List.getElem?_eq_getElem hk] at e
  exact (List.getElem_inj nd).mp e
theorem join_text (x : PySem.Str) : Txt.join Str.empty (TS.signs x) = x := by
  rw [show Txt.join Str.empty (TS.signs x) = Str.join Str.empty (TS.signs x) from eq_of_beq (PyProof.Rows.join_closes rfl)]
  unfold TS.signs
  rw [join_signs]
/-- what a dict holds, its keys in order -/
def DK (H1 H2 : Hp) (kf : Nat → PySem.Str) (Ro : Nat → HO → Prop) (n : Nat) (kvs : List (Key × V)) : Prop := kvs.length = n ∧ ∀ i, i < n → ∃ r o, kvs[i]? = some (.inr (kf i), .ref r) ∧ H1 r = none ∧ H2 r = some o ∧ Ro i o
theorem valV_none {kvs : List (Key × V)} {k : Key} (h : ∀ (i : Nat) (e : Key × V), kvs[i]? = some e → e.1 ≠ k) : valV kvs k = none := by
  unfold valV
  rw [List.find?_eq_none.mpr, Option.map_none]
  intro e he
  obtain ⟨i, hi, rfl⟩ := List.getElem_of_mem he
  simpa using h i _ (List.getElem?_eq_getElem hi)
theorem valV_some : ∀ {kvs : List (Key × V)} {k : Key} {i : Nat} {v : V}, (∀ (j : Nat) (e : Key × V), kvs[j]? = some e → e.1 = k → j = i) → kvs[i]? = some (k, v) → valV kvs k = some v
  | [], _, _, _, _, h => by simp at h
  | e :: kvs, k, 0, v, _, h => by
    have : e = (k, v) := by simpa using h
    subst this
    exact valV_pos rfl
  | e :: kvs, k, i + 1, v, u, h => by
    have ne : ¬ e.1 = k := fun z => by
      have := u 0 e rfl z
      omega
    rw [valV_neg ne]
    refine valV_some (i := i) (fun j e' hj ej => ?_) (by simpa using h)
    have := u (j + 1) e' (by simpa using hj) ej
    omega
section
variable {P : Program} {w : World} {K : PySem.W.Frag} {σ : L2.St} {H H1 : Hp} {ta tb te to tk tv : TE} {D : Ends} {wi : TI} {xs : List V} {i j : Nat} {g : TG} {vs : List Nat}
/-- a comprehension with any target, no test -/
theorem ek_kcG (kd : Kd) (ys : List V) (h : EvI wi σ H xs) (hl : ys.length = xs.length) (hz : xs.length ≤ 3000) (hf : ∀ y ∈ ys, kd.fits y)
    (he : ∀ (i : Nat) (x y : V) H1, Ex H H1 → xs[i]? = some x → ys[i]? = some y → ∀ Q : VK, (∀ H2, Ex H1 H2 → Q y H2) → g x (wipe σ vs) H1 fun σ2 H2 => wipe σ2 vs = wipe σ vs ∧ te σ2 H2 Q) : EvK P w kd (tKc P w kd wi g tYes te vs) σ H ys := fun H0 e Q q => h H0 e _ fun J H1 G e1 eG eG1 nG g0 D hD => by
  refine turns (g := g0) (Step := fun x H Nx => g x (wipe σ vs) H fun σ2 H2 => wipe σ2 vs = wipe σ vs ∧ tYes σ2 H2 fun b H3 => if b = true then te σ2 H3 fun y H4 => kd.add P w D H4 y Nx else Nx H3) (Qd := fun H => Q (.ref D) H)
    (fun i H' => Ex H1 H' ∧ H' D = some (kd.val P w D (ys.take i))) ⟨Ex.new hD, ?_⟩ (fun i H' _ p => eG1.trans p.1) (fun i x H' hx p => ?_) (fun H' p => ?_)
  · rw [List.take_zero, kd.val0]; exact upd_same
  · have hi := (List.getElem?_eq_some_iff.mp hx).1
    have hyi : i < ys.length := by omega
    obtain ⟨y, hy⟩ : ∃ y, ys[i]? = some y := ⟨ys[i], List.getElem?_eq_getElem hyi⟩
    refine he i x y H' ((e.trans e1).trans p.1) hx hy (fun y' H4 => kd.add P w D H4 y' _) fun H4 e4 => kd.add_of (e4 D _ p.2) (by have := take_len ys i; omega) (hf y (List.mem_of_getElem? hy)) ⟨Ex.mut (p.1.trans e4) hD, ?_⟩
    rw [upd_same, take_one hy]
  · refine q D H' (fresh_back e1 hD) (e1.trans p.1) ?_
    rw [p.2, ← hl, List.take_length]
/-- {k: v for x in ..}: the keys are told apart, the values are new -/
theorem dc_run (kf : Nat → PySem.Str) (Ro : Nat → HO → Prop) (h : EvI wi σ H xs) (hz : xs.length ≤ 3000) (inj : ∀ i k, i < xs.length → k < xs.length → kf i = kf k → i = k) (hw : ∀ x, wipe ((wipe σ vs).set j (some x)) vs = wipe σ vs)
    (hk : ∀ (i : Nat) (x : V) H1, Ex H H1 → xs[i]? = some x → Ev tk ((wipe σ vs).set j (some x)) H1 (.str (kf i)))
    (hv : ∀ (i : Nat) (x : V) H1, Ex H H1 → xs[i]? = some x → ∀ Q : VK, (∀ r o H2, H1 r = none → Ex H1 H2 → H2 r = some o → Ro i o → Q (.ref r) H2) → tv ((wipe σ vs).set j (some x)) H1 Q)
    (H1 : Hp) (e1 : Ex H H1) (Q : VK) (hQ : ∀ p kvs H2, H1 p = none → Ex H1 H2 → H2 p = some (.dK kvs) → DK H1 H2 kf Ro xs.length kvs → Q (.ref p) H2) : tDc wi (gName j) tYes tk tv vs σ H1 Q := h H1 e1 _ fun J H2 G e2 eG eG2 nG g0 D hD => by
  have hD1 : H1 D = none := fresh_back e2 hD
  refine turns (g := g0) (Step := fun x H Nx => gName j x (wipe σ vs) H fun σ2 H2 => wipe σ2 vs = wipe σ vs ∧ tYes σ2 H2 fun b H3 => if b = true then tk σ2 H3 fun y H4 => tv σ2 H4 fun z H5 => ∃ kvs k, y = kV k ∧ H5 D = some (.dK kvs) ∧ kvs.length < sizeLine ∧ Nx (L2.upd H5 D (.dK (putK kvs k z))) else Nx H3) (Qd := fun H => Q (.ref D) H)
    (fun i H' => i ≤ xs.length ∧ Ex H2 H' ∧ ∃ kvs, H' D = some (.dK kvs) ∧ kvs.length = i ∧ ∀ k, k < i → ∃ r o, kvs[k]? = some (.inr (kf k), .ref r) ∧ H1 r = none ∧ r ≠ D ∧ H' r = some o ∧ Ro k o) ⟨Nat.zero_le _, Ex.new hD, [], upd_same, rfl, fun k hk => absurd hk (Nat.not_lt_zero k)⟩ (fun i H' _ p => eG2.trans p.2.1) (fun i x H' hx p => ⟨hw x, ?_⟩) (fun H' p => ?_)
  · obtain ⟨_, pE, kvs, pD, pl, pk⟩ := p
    have hi := (List.getElem?_eq_some_iff.mp hx).1
    have e0 := (e1.trans e2).trans pE
    refine hk i x H' e0 hx H' (Ex.refl _) _ fun H4 e4 => ?_
    refine hv i x H4 (e0.trans e4) hx _ fun r o H5 hr e5 h5 ho => ?_
    have e45 := e4.trans e5
    have hrD : r ≠ D := fun z => by rw [z, e4 _ _ pD] at hr; cases hr
    have new : valV kvs (.inr (kf i)) = none := valV_none fun k e he => by
      have hk2 : k < i := by have := (List.getElem?_eq_some_iff.mp he).1; omega
      obtain ⟨r', o', q1, _⟩ := pk k hk2
      rw [he] at q1
      have q2 := Option.some.inj q1
      subst q2
      intro z
      have := inj k i (by omega) hi (Sum.inr.inj z)
      omega
    refine ⟨kvs, .inr (kf i), rfl, e45 _ _ pD, sz_lt (by omega), by omega, Ex.mut (pE.trans e45) hD, kvs ++ [(.inr (kf i), .ref r)], ?_, by rw [List.length_append, pl]; rfl, fun k hk2 => ?_⟩
    · rw [upd_same, putK_new _ new]
    · by_cases hki : k < i
      · obtain ⟨r', o', q1, q2, q3, q4, q5⟩ := pk k hki
        exact ⟨r', o', by rw [List.getElem?_append_left (by omega)]; exact q1, q2, q3, by rw [upd_ne q3]; exact e45 _ _ q4, q5⟩
      · have hki2 : k = i := by omega
        subst hki2
        refine ⟨r, o, by rw [List.getElem?_append_right (by omega), pl, Nat.sub_self]; rfl, fresh_back ((e2.trans pE).trans e4) hr, hrD, by rw [upd_ne hrD]; exact h5, ho⟩
  · obtain ⟨_, pE, kvs, pD, pl, pk⟩ := p
    exact hQ D kvs H' hD1 (e2.trans pE) pD ⟨pl, fun k hk2 => let ⟨r, o, q1, q2, _, q4, q5⟩ := pk k hk2; ⟨r, o, q1, q2, q4, q5⟩⟩
/-- set(text) -/
theorem ek_setT {x : PySem.Str} (h : Ev te σ H (.str x)) (hz : x.length ≤ 1000) : EvK P w .set (tCB (rSetNew P w K) (tCons te tNil)) σ H ((TS.signs x).map V.str) := fun H1 e Q q => h H1 e _ fun H2 e2 => by
  refine ⟨_, TS.signs x, rfl, .inr (.inr ⟨_, rfl, rfl⟩), by simp [TS.signs]; rw [show x.cps.size = x.length from rfl]; omega, fun p hp => q p _ (fresh_back e2 hp) (e2.trans (Ex.new hp)) ?_⟩
  rw [upd_same]
  show some (SetS P w p (intoSet [] (TS.signs x))) = some (SetS P w p (intoSet [] (((TS.signs x).map V.str).map strV)))
  rw [strV_map]
theorem sum_ones : ∀ ss : List PySem.Str, (∀ s ∈ ss, s.length = 1) → (ss.map (·.length)).sum = ss.length
  | [], _ => rfl
  | s :: ss, h => by
    rw [List.map_cons, List.sum_cons, h s List.mem_cons_self, sum_ones ss fun t ht => h t (List.mem_cons_of_mem _ ht), List.length_cons]; omega
theorem signs_one' {x : PySem.Str} : ∀ s ∈ TS.signs x, s.length = 1 := fun s hs => by obtain ⟨c, _, rfl⟩ := List.mem_map.mp hs; rfl
theorem signs_len (x : PySem.Str) : (TS.signs x).length = x.length := by simp [TS.signs, Str.length]
/-- "".join(signs of a text) -/
theorem ev_joinT {x : PySem.Str} (hz : x.length ≤ 1000) (ho : ∀ H1, Ex H H1 → Ev to σ H1 (.str Str.empty)) (h : EvL te σ H ((TS.signs x).map V.str)) : Ev (tM1 (fun x xs H Q => ∃ a p, ∃ ys : List PySem.Str, x = .str a ∧ xs = [.ref p] ∧ (SqL K H p (ys.map V.str) ∨ SqT K H p (ys.map V.str)) ∧
      (ys.map (·.length)).sum + ys.length * a.length ≤ 16777216 ∧ Q (.str (Txt.join a ys)) H) to te) σ H (.str x) := fun H1 e Q q =>
  ho H1 e H1 (Ex.refl _) _ fun H2 e2 => ⟨⟨_, rfl⟩, h H2 (e.trans e2) _ fun p H3 hp e3 h3 => ⟨Str.empty, p, TS.signs x, rfl, rfl, .inl (sq_of h3), by
    rw [sum_ones _ signs_one', signs_len, show Str.empty.length = 0 from rfl]; omega, by
    rw [join_text]; exact q H3 (e2.trans e3)⟩⟩
end
/-! ### the class Facts -/
/-- told facts at a -/
def FAt (CF : Addr) (H : Hp) (a : Addr) (rows : List Pr) (pr : PySem.Str) : Prop := ∃ dx r o ys, H a = some (.ins CF dx (fF r pr o)) ∧ H r = some (.tup ys) ∧ Prs H ys rows
theorem FAt.mono {CF : Addr} {H H' : Hp} {a : Addr} {rows : List Pr} {pr : PySem.Str} (e : Ex H H') (h : FAt CF H a rows pr) : FAt CF H' a rows pr := let ⟨dx, r, o, ys, h1, h2, h3⟩ := h; ⟨dx, r, o, ys, e _ _ h1, e _ _ h2, h3.mono e⟩
/-- what may be told: the paired dials in order, each once -/
structure Told (rows : List Pr) (pr : PySem.Str) : Prop where
  ok : RowsOk rows
  len : rows.length ≤ 24
  pd : PdS pr
  pz : pr.length ≤ 100
  fit : FitS rows pr
  srt : wordOrd (TS.signs pr) = TS.signs pr
section
variable {P : Program} {w : World} {K : PySem.W.Frag} {mg : PySem.Str → Option Value} {base : Heap} {f f1 f2 f3 CF : Addr} {fd fd1 fd2 fd3 : FuncData}
abbrev c_facts : Stmt := top 46
abbrev s_finit : Stmt := inClass c_facts 1
abbrev nFI : List PySem.Str := ["self", "paired", "below", "parts", "low", "high", "part"]
def spFI (CF : Addr) : Sp := fun vs H Q _ => ∃ (a dx p : Addr) (pr : PySem.Str) (ys : List V) (rows : List Pr), vs = [.ref a, .str pr, .ref p] ∧ H a = some (.ins CF dx []) ∧ H p = some (.tup ys) ∧ Prs H ys rows ∧ Told rows pr ∧ ∀ H2, ExB a H H2 → (∃ r o zs, H2 a = some (.ins CF dx (fF r pr o)) ∧ H2 r = some (.tup zs) ∧ Prs H2 zs (ddP rows)) → Q .non H2
theorem scFI : FnScope nFI ["self", "paired", "below"] (defScope s_finit) := ⟨rfl, rfl, rfl, by decide +kernel, rfl, by decide +kernel, by decide +kernel⟩
theorem Prs.updI {H : Hp} {ys : List V} {rows : List Pr} {l : Addr} {u o : HO} (h : Prs H ys rows) (hl : H l = some u) (nt : ∀ x y, u ≠ .tup [.str x, .str y]) : Prs (L2.upd H l o) ys rows := ⟨h.1, fun i x y hi => by
  obtain ⟨p, a, b⟩ := h.2 i x y hi
  exact ⟨p, a, by rw [upd_ne (fun z => by rw [z, hl] at b; exact nt x y (Option.some.inj b))]; exact b⟩⟩
theorem ok_finit (W : Wd mg) (FC : FCls K mg CF) (F : FunD K "__init__" "Facts.__init__" (defArgs s_finit) (defBody s_finit) (defScope s_finit) [] [("paired", .str "")] f fd)
    (D1 : Dat K mg "_check_told" s_checkT ["pairs", "paired", "most"] f1 fd1) (G1 : FnOk P w K mg base (L2.CX P w) 3 f1 fd1 ["pairs", "paired", "most"] (spCheckT K)) (D2 : Dat K mg "_different" s_diff ["pairs"] f2 fd2) (G2 : FnOk P w K mg base (L2.CX P w) 1 f2 fd2 ["pairs"] (spDiff K))
    (D3 : Dat K mg "_spread" s_spread ["low", "rows"] f3 fd3) (G3 : FnOk P w K mg base (L2.CX P w) 1 f3 fd3 ["low", "rows"] (spSpread K)) :
    FnSK P w K mg base (L2.CX P w) 4 f "paired" (fun x vs y H Q E => vs.length ≤ sizeLine ∧ ∀ p, H p = Option.none → spFI CF [x, y, V.ref p] (L2.upd H p (.tup vs)) Q E) := by
  obtain ⟨oc, od, dV, kV, doc, pm, an, cdv, ct, osl, rfl, lk, hcd, hD, _⟩ := F.ex
  obtain rfl : dV = .none := hD.elim (fun z => z.2) fun z => absurd rfl z.1
  obtain ⟨mc, tk, cr, cv⟩ := FC.most
  refine fn_starK lk hcd scFI StX.cxUp (fun a rest z => by match rest with | [] => rfl | _ :: _ => rfl) fun A outer s H vs Q E hr h => ?_
  obtain ⟨a, dx, p, pr, ys, rows, rfl, ha, hp, hR, told, k⟩ := h
  have hr1 : Room 1 _ := hr.mono (by decide)
  refine ⟨_, pss_cons (ps_expr (pe_call G1 hr rfl D1.g D1.k D1.b .nil pas0 (pa_cons (pv 2) (pa_cons (pv 1) (pa_cons (ClX.pe_cval (pe_glob (v := .ref CF) rfl FC.g rfl)) pa_nil)))))
    (pss_cons (ps_fld (pv 0) (pe_call G2 hr1 rfl D2.g D2.k D2.b .nil pas0 (pa_cons (pv 2) pa_nil)) rfl)
    (pss_cons (ps_fld (pv 0) (pe_join pe_str (pe_callB (TS.cr_sortedSet rfl) (by rfl) W.sorted boot_sorted (pa_cons (pe_callTy (cr_setNew rfl) rfl W.set PyProof.Rows.boot_set (pa_cons (pv 1) pa_nil)) pa_nil))) rfl)
    (pss_cons (ps_set (i := 3) scFI.nd rfl (Or.inl rfl) (pe_callB (TS.cr_sortedSet rfl) (by rfl) W.sorted boot_sorted (pa_cons (pe_s1 (own := [("low", 4), ("high", 5)]) (g := gTup K 2 (gCons (gName 4) (gCons (gName 5) gNil))) (te := tVar 4) rfl scFI.nd (pi_tup (pe_fld (pv 0) rfl)) (blkOk_by (N := nFI) (sc := defScope s_finit) (by decide +kernel))
        (fun _ _ _ _ _ => pg_tup rfl (pgs_cons (pg_name (i := 4) scFI.nd rfl (Or.inl rfl)) (pgs_cons (pg_name (i := 5) scFI.nd rfl (Or.inl rfl)) pgs_nil))) (fun _ _ _ _ _ => pts_nil) (fun _ _ _ _ _ => pv 4)) pa_nil)))
    (pss_one (ps_fld (pv 0) (pe_dc (own := [("part", 6)]) (g := gName 6) (tt := tYes) (tk := tVar 6) (tv := tOp (rIxT K) (tCall (spSpread K) [] E0 (tCons (tVar 6) (tCons (tFld K (tVar 0) "_rows") tNil))) (tC (.int 0))) rfl scFI.nd (pi_list (pv 3)) (blkOk_by (N := nFI) (sc := defScope s_finit) (by decide +kernel))
        (fun _ _ _ _ _ => pg_name (i := 6) scFI.nd rfl (Or.inl rfl)) (fun _ _ _ _ _ => pts_nil) (fun _ _ _ _ _ => pv 6) (fun _ _ _ _ _ => pe_ix ix_tup (pe_call G3 hr1 rfl D3.g D3.k D3.b .nil pas0 (pa_cons (pv 6) (pa_cons (pe_fld (pv 0) rfl) pa_nil))) pe_int (fun _ _ => rfl))) rfl))))), ?_⟩
  have hpz := told.pz
  have hln := told.len
  refine q_drop (ev_call (z := .non) (vs := [.ref p, .str pr, .int 24]) (ea_cons (ev_var rfl) (ea_cons (ev_var rfl) (ea_cons (ev_cval cr cv) ea_nil))) fun H1 e1 Q1 q1 E1 => ⟨p, ys, rows, pr, rfl, ex_t e1 (st_of hp), hR.mono e1, told.ok, hln, told.pd, by omega, told.fit, fun H2 e2 => q1 H2 e2⟩) fun H1 e1 => ?_
  have ha1 := e1 _ _ ha
  have hp1 := e1 _ _ hp
  have hpa : p ≠ a := fun z => by rw [z, ha] at hp; cases hp
  refine q_fldP (R := fun v H' => ∃ r zs, v = .ref r ∧ H' r = some (.tup zs) ∧ Prs H' zs (ddP rows) ∧ r ≠ a) (fun X eX Q2 q2 => ?_) (ev_var rfl) ha1 FC.c FC.n1 (by decide) (fun v X Y e ⟨r, zs, g1, g2, g3, g4⟩ => ⟨r, zs, g1, e _ _ g2, g3.mono e, g4⟩) fun v H2 e2 ⟨r, zs, hv, hr2, hZ, hra⟩ => ?_
  · refine ⟨.ref p, rfl, p, ys, rows, rfl, ex_t eX (st_of hp1), hR.mono (e1.trans eX), told.ok, by omega, fun r zs Y hr eY hY hZ => q2 _ Y eY ⟨r, zs, rfl, hY, hZ, fun z => by rw [z, eX _ _ ha1] at hr; cases hr⟩⟩
  subst hv
  have ok2 : RowsOk (ddP rows) := by have z := ddP_ok told.ok rows.length; rw [List.take_length] at z; exact z
  have ln2 : (ddP rows).length ≤ 24 := by have z := ddP_len rows rows.length; rw [List.take_length] at z; omega
  generalize ddP rows = rows2 at hZ ok2 ln2 k
  generalize hH3 : L2.upd H2 a (.ins CF dx (putF "_rows" (.ref r) [])) = H3
  have ha3 : H3 a = some (.ins CF dx [("_rows", .ref r)]) := by rw [← hH3, upd_same]; rfl
  have hr3 : H3 r = some (.tup zs) := by rw [← hH3, upd_ne hra]; exact hr2
  have hZ3 : Prs H3 zs rows2 := by rw [← hH3]; exact hZ.updI (e2 _ _ ha1) (fun _ _ z => nomatch z)
  have b3 : ExB a H H3 := by rw [← hH3]; exact (ExB.of (e1.trans e2)).trans .upd
  refine q_fldV (v := .str pr) (ev_joinT (K := K) (by omega) (fun _ _ => ev_c) (by rw [← told.srt]; exact el_sortOne (n := 1) (ek_setT (K := K) (ev_var rfl) (by omega)) (by rw [signs_len]; omega) signs_one')) (ev_var rfl) ha3 FC.c FC.n2 (by simp) fun H4 e4 => ?_
  generalize hH5 : L2.upd H4 a (.ins CF dx (putF "_paired" (.str pr) [("_rows", .ref r)])) = H5
  have ha5 : H5 a = some (.ins CF dx [("_rows", .ref r), ("_paired", .str pr)]) := by rw [← hH5, upd_same]; rfl
  have hr5 : H5 r = some (.tup zs) := by rw [← hH5, upd_ne hra]; exact e4 _ _ hr3
  have hZ5 : Prs H5 zs rows2 := by rw [← hH5]; exact (hZ3.mono e4).updI (e4 _ _ ha3) (fun _ _ z => nomatch z)
  have b5 : ExB a H H5 := by rw [← hH5]; exact (b3.trans (.of e4)).trans .upd
  refine q_asgL (xs := (wordOrd (rows2.map (·.1))).map V.str) (el_sortOne (n := 1) (ek_kcG .set ((rows2.map (·.1)).map V.str) (ei_tup (K := K) (ev_fld (K := K) (ev_var rfl) ha5 FC.c FC.n1 rfl) (st_of hr5)) (by rw [List.length_map, List.length_map, hZ5.1]) (by rw [hZ5.1]; omega) (fun y hy => by obtain ⟨k, _, rfl⟩ := List.mem_map.mp hy; exact ⟨k, rfl⟩) fun i u v X eX hu hv Q2 q2 => ?_) (by rw [List.length_map]; omega) fun s hs => ?_) fun q H6 hq e6 h6 => ?_
  · obtain ⟨x, y, pp, g1, rfl, g2⟩ := (hZ5.mono eX).at hu
    refine g_pair g2 ⟨rfl, ?_⟩
    rw [List.map_map, List.getElem?_map, g1] at hv
    cases hv
    exact ev_var (i := 4) rfl X (Ex.refl X) Q2 fun Y eY => q2 Y eY
  · obtain ⟨x, hx, rfl⟩ := List.mem_map.mp hs
    exact PartS.len (ok2 x hx).1
  have ha6 := e6 _ _ ha5
  have hr6 := e6 _ _ hr5
  have hZ6 := hZ5.mono e6
  have wn : (wordOrd (rows2.map (·.1))).length ≤ 24 := Nat.le_trans (wordOrd_len _ (Nat.le_refl _)) (by rw [List.length_map]; exact ln2)
  refine s_fldP (R := fun v _ => ∃ o, v = .ref o) (fun X eX Q2 q2 => dc_run (fun i => (wordOrd (rows2.map (·.1))).getD i Str.empty) (fun _ _ => True) (ei_list (K := K) (ev_var rfl) (sq_of h6)) (by rw [List.length_map]; omega) (fun i k hi hk he => ?_) (fun _ => rfl) (fun i x Y eY hx => ?_) (fun i x Y eY hx Q3 q3 => ?_) X eX Q2 fun p kvs Y hp eY hY _ => q2 _ Y eY ⟨p, rfl⟩) (ev_var rfl) ha6 FC.c FC.n3 (by simp) (fun _ _ _ _ h => h) fun v H7 e7 ⟨o, hv⟩ => ?_
  · rw [List.length_map] at hi hk
    exact nd_getD (wordOrd_nd _) hi hk he
  · rw [List.getElem?_map] at hx
    obtain ⟨s, hs, rfl⟩ := Option.map_eq_some_iff.mp hx
    rw [List.getD_eq_getElem?_getD, hs]
    exact ev_var rfl
  · rw [List.getElem?_map] at hx
    obtain ⟨s, hs, rfl⟩ := Option.map_eq_some_iff.mp hx
    have eY6 : Ex H6 Y := eY
    refine ⟨.str s, rfl, ?_⟩
    refine ev_fld (K := K) (ev_var rfl) (eY6 _ _ ha6) FC.c FC.n1 rfl Y (Ex.refl Y) _ fun Y1 e1 => ?_
    refine ⟨r, zs, rows2, s, rfl, st_of ((eY6.trans e1) _ _ hr6), hZ6.mono (eY6.trans e1), by omega, fun pt rr tt fs Z hpt hrr eZ hZt hZr => ?_⟩
    exact ⟨pt, _, 0, .ref rr, rfl, rfl, st_of hZt, at_zero _ _, q3 rr _ Z (fresh_back e1 hrr) (e1.trans eZ) hZr trivial⟩
  subst hv
  have e67 := e6.trans e7
  exact k _ ((b5.trans (.of e67)).trans .upd) ⟨r, o, zs, by rw [upd_same]; rfl, by rw [upd_ne hra]; exact e67 _ _ hr5, (hZ5.mono e67).updI (e67 _ _ ha5) (fun _ _ z => nomatch z)⟩
end
end Z
end
/-! Y9 -/
set_option linter.all false
set_option maxRecDepth 100000
set_option maxHeartbeats 4000000
noncomputable section
namespace Z
open PySem PySem.Spec PyProof.Rows L2 PySem.Froz Evl TS

def n1 (x : PySem.Str) : Bool := !decide (x = "1")
/-- the parts told, but 1 -/
def partsOf (rows : List Pr) : List PySem.Str := rows.flatMap fun r => [r.1, r.2].filter n1
theorem parts_take {rows : List Pr} {i : Nat} {x y : PySem.Str} (h : rows[i]? = some (x, y)) : partsOf (rows.take (i + 1)) = partsOf (rows.take i) ++ [x, y].filter n1 := by
  unfold partsOf
  rw [List.take_add_one, h, Option.toList_some, List.flatMap_append]
  simp
theorem parts_len (rows : List Pr) : (partsOf rows).length ≤ 2 * rows.length := by
  induction rows with
  | nil => simp [partsOf]
  | cons r rs ih =>
    have e : partsOf (r :: rs) = ([r.1, r.2].filter n1) ++ partsOf rs := rfl
    have := List.length_filter_le n1 [r.1, r.2]
    rw [e, List.length_append, List.length_cons]
    simp at this
    omega
theorem parts_one {rows : List Pr} (ok : RowsOk rows) : ∀ k ∈ partsOf rows, k.length = 1 := fun k hk => by
  obtain ⟨r, hr, hm⟩ := List.mem_flatMap.mp hk
  have hm2 := (List.mem_filter.mp hm).1
  rcases List.mem_cons.mp hm2 with e | e
  · rw [e]; exact PartS.len (ok r hr).1
  · rw [List.mem_singleton.mp e]; exact PartS.len (ok r hr).2
section
variable {K : PySem.W.Frag} {σ : L2.St} {H H1 : Hp} {te : TE} {a CF : Addr}
/-- [part for pair in .. for part in pair if part != "1"] -/
theorem el_parts {wi : TI} {ys : List V} {rows : List Pr} {i j : Nat} {vs vs1 : List Nat} (h : EvI wi σ H ys) (hR : Prs H ys rows) (hz : rows.length ≤ 1000) (hw : ∀ x, wipe ((wipe σ vs).set i (some x)) vs = wipe σ vs)
    (hi : ∀ x, (wipe ((wipe σ vs).set i (some x)) [])[i]? = some (some x)) (hw1 : ∀ x z, wipe ((wipe ((wipe σ vs).set i (some x)) vs1).set j (some z)) vs1 = wipe ((wipe σ vs).set i (some x)) vs1) (hj : ∀ x z, ((wipe ((wipe σ vs).set i (some x)) vs1).set j (some z))[j]? = some (some z)) :
    EvL (tLc2 wi (gName i) tYes (iTup K (tVar i)) (gName j) (tTest (tOp rNe (tVar j) (tC (.str "1")))) (tVar j) vs vs1) σ H ((partsOf rows).map V.str) := fun H0 e Q q => h H0 e _ fun J H1 G e1 eG eG1 nG g D hD => by
  refine turns (g := g) (Step := fun x H Nx => gName i x (wipe σ vs) H fun σ2 H2 => wipe σ2 vs = wipe σ vs ∧ tYes σ2 H2 fun b H3 => if b = true then iTup K (tVar i) σ2 H3 fun J1 H4 => ∃ W1 : Nat → Nat → Hp → Prop, (∃ m, W1 0 m H4) ∧ ∀ l k H, W1 l k H →
      (J1.stop l H ∧ Nx H) ∨ (J1.go l H ∧ ∃ Nx1 : Hp → Prop, (∀ H', Nx1 H' → ∃ k', k' < k ∧ W1 (l + 1) k' H') ∧ ∀ x H', J1.yld l H x H' → gName j x (wipe σ2 vs1) H' fun σ3 H5 => wipe σ3 vs1 = wipe σ2 vs1 ∧ tTest (tOp rNe (tVar j) (tC (.str "1"))) σ3 H5 fun b H6 =>
        if b = true then tVar j σ3 H6 fun y H7 => ∃ acc, H7 D = some (.lst acc) ∧ acc.length < sizeLine ∧ Nx1 (L2.upd H7 D (.lst (acc ++ [y]))) else Nx1 H6) else Nx H3) (Qd := fun H => Q (.ref D) H)
    (fun n H' => n ≤ ys.length ∧ Ex H1 H' ∧ H' D = some (.lst ((partsOf (rows.take n)).map V.str))) ⟨Nat.zero_le _, Ex.new hD, upd_same⟩ (fun n H' _ p => eG1.trans p.2.1) (fun n u H' hu p => ⟨hw u, ?_⟩) (fun H' p => ?_)
  · obtain ⟨_, pE, pD⟩ := p
    have e0 := (e.trans e1).trans pE
    have hn := (List.getElem?_eq_some_iff.mp hu).1
    obtain ⟨x, y, t, hr, rfl, ht⟩ := (hR.mono e0).at hu
    have pl := parts_len (rows.take n)
    have tl : (rows.take n).length ≤ rows.length := by rw [List.length_take]; omega
    refine ⟨.ref t, ?_, t, rfl, ⟨_, st_of ht⟩, ?_⟩
    · have z := hi (.ref t)
      have w0 : wipe ((wipe σ vs).set i (some (.ref t))) [] = (wipe σ vs).set i (some (.ref t)) := by first | rfl | simp [wipe]
      rw [w0] at z
      exact z
    have nt : t ≠ D := fun z => by rw [z, pD] at ht; cases ht
    refine turns (J := Itt K t) (Hc := fun H2 => H2 t = some (.tup [.str x, .str y])) (xs := [.str x, .str y]) (goes_t fun H2 h2 => st_of h2) (Step := fun z H Nx1 => gName j z (wipe ((wipe σ vs).set i (some (.ref t))) vs1) H fun σ3 H5 => wipe σ3 vs1 = wipe ((wipe σ vs).set i (some (.ref t))) vs1 ∧ tTest (tOp rNe (tVar j) (tC (.str "1"))) σ3 H5 fun b H6 =>
        if b = true then tVar j σ3 H6 fun y H7 => ∃ acc, H7 D = some (.lst acc) ∧ acc.length < sizeLine ∧ Nx1 (L2.upd H7 D (.lst (acc ++ [y]))) else Nx1 H6)
      (Qd := fun H2 => n + 1 ≤ ys.length ∧ Ex H1 H2 ∧ H2 D = some (.lst ((partsOf (rows.take (n + 1))).map V.str)))
      (fun k H2 => (Ex H1 H2 ∧ H2 t = some (.tup [.str x, .str y])) ∧ H2 D = some (.lst ((partsOf (rows.take n) ++ ([x, y].take k).filter n1).map V.str))) ⟨⟨pE, ht⟩, by rw [List.take_zero, List.filter_nil, List.append_nil]; exact pD⟩ (fun k H2 _ p2 => p2.1.2) (fun k z H2 hz2 p2 => ⟨hw1 _ z, ?_⟩) fun H2 p2 => ⟨hn, p2.1.1, ?_⟩
    · obtain ⟨⟨p1, p2t⟩, pD2⟩ := p2
      obtain ⟨s, hs, rfl⟩ : ∃ s, [x, y][k]? = some s ∧ z = .str s := by
        have hz3 : ([x, y].map V.str)[k]? = some z := hz2
        rw [List.getElem?_map] at hz3
        obtain ⟨s, hs, e⟩ := Option.map_eq_some_iff.mp hz3
        exact ⟨s, hs, e.symm⟩
      have fl : ((([x, y].take k).filter n1).length) ≤ 2 := Nat.le_trans (List.length_filter_le _ _) (by rw [List.length_take]; exact Nat.min_le_right _ _)
      refine et_test (ev_is (ev_op (ev_var (hj _ _)) ev_c (rv_ne rfl)) (w := .bl (n1 s)) (by rw [str_eq]; rfl)) H2 (Ex.refl _) _ fun H3 e3 => ?_
      have st : ([x, y].take (k + 1)).filter n1 = ([x, y].take k).filter n1 ++ [s].filter n1 := by rw [List.take_add_one, hs, Option.toList_some, List.filter_append]
      cases b : n1 s with
      | true =>
        rw [if_pos rfl]
        refine ⟨.str s, hj _ _, _, e3 _ _ pD2, sz_lt (by rw [List.length_map, List.length_append]; omega), ⟨Ex.mut (p1.trans e3) hD, by rw [upd_ne nt]; exact e3 _ _ p2t⟩, ?_⟩
        rw [upd_same, st, List.filter_cons, b, if_pos rfl, List.filter_nil, ← List.append_assoc, List.map_append (l₂ := [s])]
        rfl
      | false =>
        rw [if_neg (by decide)]
        refine ⟨⟨p1.trans e3, e3 _ _ p2t⟩, ?_⟩
        rw [e3 _ _ pD2, st, List.filter_cons, b, if_neg (by decide), List.filter_nil, List.append_nil]
    · rw [p2.2, parts_take hr]
      rfl
  · refine q D H' (fresh_back e1 hD) (e1.trans p.2.1) ?_
    rw [p.2.2, hR.1, List.take_length]
end
section
variable {P : Program} {w : World} {K : PySem.W.Frag} {mg : PySem.Str → Option Value} {base : Heap} {f f1 f2 f3 CF : Addr} {fd fd1 fd2 fd3 : FuncData}
/-! ### Facts.listed, .paired, .dial_list -/
abbrev s_listed : Stmt := inClass c_facts 2
def spListed (K : PySem.W.Frag) (CF : Addr) : Sp := fun vs H Q _ => ∃ (p : Addr) (pr : PySem.Str) (ys : List V) (rows : List Pr), vs = [.ref p, .str pr] ∧ SqL K H p ys ∧ Prs H ys rows ∧ Told rows pr ∧ ∀ a H2, H a = none → Ex H H2 → FAt CF H2 a (ddP rows) pr → Q (.ref a) H2
theorem scListed : FnScope ["pairs", "paired"] ["pairs", "paired"] (defScope s_listed) := ⟨rfl, rfl, rfl, by decide +kernel, rfl, by decide +kernel, by decide +kernel⟩
theorem ok_listed (W : Wd mg) (FC : FCls K mg CF) (M : Mk K CF f2) (D : DatD K "listed" "Facts.listed" s_listed [.str ""] [] ["pairs", "paired"] f fd)
    (GI : FnSK P w K mg base (L2.CX P w) 4 f2 "paired" (fun x vs y H Q E => vs.length ≤ sizeLine ∧ ∀ p, H p = Option.none → spFI CF [x, y, V.ref p] (L2.upd H p (.tup vs)) Q E)) : FnOk P w K mg base (L2.CX P w) 6 f fd ["pairs", "paired"] (spListed K CF) := by
  refine D.F.ok scListed (fun vs H Q E h => ?_) (fun cdv A outer s H vs Q E hr h => ?_)
  · obtain ⟨p, pr, ys, rows, rfl, _⟩ := h
    rfl
  · obtain ⟨p, pr, ys, rows, rfl, hp, hR, told, k⟩ := h
    refine ⟨_, pss_one (ps_ret (pe_makeSK M GI hr rfl FC.g (pas0 (X := cxOf (L2.CX P w) P w K mg base ["pairs", "paired"] "Facts.listed" (defScope s_listed) f cdv A outer s H E)) (pv 0) (pk_cons (pv 1) pk_nil))), ?_⟩
    refine ⟨.ref p, rfl, .str pr, rfl, p, ys, .str pr, rfl, .inr hp, rfl, ?_⟩
    intro x dx hx hdx hne
    have hln := told.len
    refine ⟨by rw [hR.1]; exact sz_of (by omega), fun t ht => ?_⟩
    have m := upd_make (C := CF) hx hdx
    have hxs : (L2.upd (L2.upd H dx (.own x)) x (.ins CF dx [])) x = some (.ins CF dx []) := upd_same
    have txx : t ≠ x := fun z => by rw [z, hxs] at ht; cases ht
    refine ⟨x, dx, t, pr, ys, rows, rfl, by rw [upd_ne (Ne.symm txx)]; exact hxs, upd_same, hR.mono (m.trans (Ex.new ht)), told, fun H2 b2 ⟨r, o, zs, h1, h2, h3⟩ => ⟨rfl, k x H2 hx ?_ ⟨dx, r, o, zs, h1, h2, h3⟩⟩⟩
    exact b2.base (m.trans (Ex.new ht)) hx
abbrev s_paired : Stmt := inClass c_facts 3
theorem scSelf1 : FnScope ["self"] ["self"] (defScope s_paired) := ⟨rfl, rfl, rfl, by decide +kernel, rfl, by decide +kernel, by decide +kernel⟩
def spPaired (CF : Addr) : Sp := fun vs H Q _ => ∃ (a : Addr) (rows : List Pr) (pr : PySem.Str), vs = [.ref a] ∧ FAt CF H a rows pr ∧ RetV (.str pr) H Q
theorem ok_paired (FC : FCls K mg CF) (D : DatM K "paired" "Facts.paired" s_paired ["self"] f fd) : FnOk P w K mg base (L2.CX P w) 1 f fd ["self"] (spPaired CF) := by
  refine D.F.okX scSelf1 (fun vs H Q E h => ?_) (fun cdv A outer s H vs Q E hr h => ?_)
  · obtain ⟨a, rows, pr, rfl, _⟩ := h
    rfl
  · obtain ⟨a, rows, pr, rfl, ⟨dx, r, o, ys, ha, _⟩, k⟩ := h
    exact ⟨_, pss_one (ps_ret (pe_fld (pv 0) rfl)), s_ret (ev_fld (K := K) (ev_var rfl) ha FC.c FC.n2 rfl) fun H1 e => k H1 e⟩
abbrev s_fdials : Stmt := inClass c_facts 7
abbrev nFD : List PySem.Str := ["self", "told", "pair", "part"]
theorem scFD : FnScope nFD ["self"] (defScope s_fdials) := ⟨rfl, rfl, rfl, by decide +kernel, rfl, by decide +kernel, by decide +kernel⟩
/-- the dials of the facts -/
def fdials (rows : List Pr) (pr : PySem.Str) : List PySem.Str := wordOrd (partsOf rows ++ TS.signs pr)
def spFD (CF : Addr) : Sp := fun vs H Q _ => ∃ (a : Addr) (rows : List Pr) (pr : PySem.Str), vs = [.ref a] ∧ FAt CF H a rows pr ∧ RowsOk rows ∧ rows.length ≤ 24 ∧ pr.length ≤ 100 ∧ RetL ((fdials rows pr).map V.str) H Q
theorem ok_fdials (W : Wd mg) (FC : FCls K mg CF) (D : DatM K "dial_list" "Facts.dial_list" s_fdials ["self"] f fd) : FnOk P w K mg base (L2.CX P w) 1 f fd ["self"] (spFD CF) := by
  refine D.F.okX scFD (fun vs H Q E h => ?_) (fun cdv A outer s H vs Q E hr h => ?_)
  · obtain ⟨a, rows, pr, rfl, _⟩ := h
    rfl
  · obtain ⟨a, rows, pr, rfl, ⟨dx, r, o, ys, ha, hr1, hZ⟩, ok, ln, pz, k⟩ := h
    refine ⟨_, pss_cons (ps_setLc2 (i := 1) (own := [("pair", 2), ("part", 3)]) (vs1 := [3]) (g := gName 2) (g1 := gName 3) (tt1 := tTest (tOp rNe (tVar 3) (tC (.str "1")))) (te := tVar 3) (wi1 := iTup K (tVar 2)) rfl scFD.nd rfl rfl (sw_true rfl rfl rfl (by decide +kernel)) (pi_tup (pe_fld (pv 0) rfl)) (blkOk_by (N := nFD) (sc := defScope s_fdials) (by decide +kernel)) (by decide)
        (fun _ _ _ _ _ => pg_name (i := 2) scFD.nd rfl (Or.inl rfl)) (fun _ _ _ _ _ => pts_nil) (fun _ _ _ _ _ => pi_tup (pv 2)) (fun _ _ _ _ _ => pg_name (i := 3) scFD.nd rfl (Or.inl rfl)) (fun _ _ _ _ _ => pts_one (pt_cmpR op_ne (pv 3) pe_str (nomark _))) (fun _ _ _ _ _ => pv 3))
      (pss_one (ps_ret (pe_callB (TS.cr_sortedSet rfl) (by rfl) W.sorted boot_sorted (pa_cons (pe_callTy (cr_setNew rfl) rfl W.set PyProof.Rows.boot_set (pa_cons (pe_lst (StX.pa_star (pv 1) (pa_starS rfl (pe_fld (pv 0) rfl) pa_nil))) pa_nil)) pa_nil)))), ?_⟩
    have pl := parts_len rows
    have sl := signs_len pr
    refine q_asgL (el_parts (K := K) (rows := rows) (ei_tup (K := K) (ev_fld (K := K) (ev_var rfl) ha FC.c FC.n1 rfl) (st_of hr1)) hZ (by omega) (fun _ => rfl) (fun _ => rfl) (fun _ _ => rfl) fun _ _ => rfl) fun p H1 hp e1 h1' => ?_
    refine s_retL (xs := (fdials rows pr).map V.str) ?_ fun q H2 hq e2 h2 => k.go e1 hq e2 h2
    refine el_sortOne (n := 1) (ss := partsOf rows ++ TS.signs pr) (ek_setL (K := K) ?_ (by rw [List.length_append]; omega)) (by rw [List.length_append]; omega) fun s hs => ?_
    · rw [List.map_append, show (TS.signs pr).map V.str = signsV pr ++ [] by rw [List.append_nil]; rfl]
      exact el_lst (ea_star (ev_var rfl) (.inr (sq_of h1')) (ea_starS (ev_fld (K := K) (ev_var rfl) (e1 _ _ ha) FC.c FC.n2 rfl) (by omega) ea_nil)) (by simp [signsV]; omega)
    · rcases List.mem_append.mp hs with h | h
      · exact parts_one ok s h
      · exact signs_one' s h
/-! ### Facts.__iter__ -/
abbrev s_fiter : Stmt := inClass c_facts 14
theorem scFIter : FnScope ["self"] ["self"] (defScope s_fiter) := ⟨rfl, rfl, rfl, by decide +kernel, rfl, by decide +kernel, by decide +kernel⟩
theorem ok_fiter (W : Wd mg) (FC : FCls K mg CF) (D : DatM K "__iter__" "Facts.__iter__" s_fiter ["self"] f fd) : FnIt P w K mg base 1 f CF "_rows" := by
  have b := D.b
  obtain ⟨oc, od, kV, doc, pm, an, cdv, ct, osl, rfl, lk, hcd⟩ := D.F.ex
  exact fnIt_of lk hcd scFIter (fun s a hk => by have z := b s [a] hk rfl; rw [List.append_nil] at z; exact z) FC.c FC.n1 W.iter (fun _ _ _ _ _ _ => rfl)
end
end Z
end
/-! Y10 -/
set_option linter.all false
set_option maxRecDepth 100000
set_option maxHeartbeats 4000000
noncomputable section
namespace Z
open PySem PySem.Spec PyProof.Rows L2 PySem.Froz Evl TS

/-! ### tables by letters -/
abbrev LT : Type := PySem.Str × List Nat
abbrev lt0 : LT := (Str.empty, [])
def TbK (H : Hp) (kvs : List (Key × V)) (Ts : List LT) : Prop := kvs.length = Ts.length ∧ ∀ (i : Nat) (l : PySem.Str) (T : List Nat), Ts[i]? = some (l, T) → ∃ t, kvs[i]? = some (.inr l, .ref t) ∧ H t = some (.lst (nv T))
theorem TbK.mono {H H' : Hp} {kvs : List (Key × V)} {Ts : List LT} (e : Ex H H') (h : TbK H kvs Ts) : TbK H' kvs Ts := ⟨h.1, fun i l T hi => let ⟨t, a, b⟩ := h.2 i l T hi; ⟨t, a, e _ _ b⟩⟩
theorem TbK.updI {H : Hp} {kvs : List (Key × V)} {Ts : List LT} {a : Addr} {u o : HO} (h : TbK H kvs Ts) (ha : H a = some u) (nl : ∀ T, u ≠ .lst (nv T)) : TbK (L2.upd H a o) kvs Ts := ⟨h.1, fun i l T hi => by
  obtain ⟨t, q, b⟩ := h.2 i l T hi
  exact ⟨t, q, by rw [upd_ne (fun z => by rw [z, ha] at b; exact nl T (Option.some.inj b))]; exact b⟩⟩
theorem TbK.at {H : Hp} {kvs : List (Key × V)} {Ts : List LT} (h : TbK H kvs Ts) {i : Nat} {k : Key} {v : V} (hi : kvs[i]? = some (k, v)) : ∃ l T t, Ts[i]? = some (l, T) ∧ k = .inr l ∧ v = .ref t ∧ H t = some (.lst (nv T)) := by
  have hl := (List.getElem?_eq_some_iff.mp hi).1
  rw [h.1] at hl
  obtain ⟨t, a, b⟩ := h.2 i (Ts[i]'hl).1 (Ts[i]'hl).2 (List.getElem?_eq_getElem hl)
  rw [hi] at a
  have e := Option.some.inj a
  exact ⟨_, _, t, List.getElem?_eq_getElem hl, congrArg Prod.fst e, congrArg Prod.snd e, b⟩
theorem nd_at {Ts : List LT} (nd : (Ts.map (·.1)).Nodup) {i j : Nat} {l : PySem.Str} {T U : List Nat} (hi : Ts[i]? = some (l, T)) (hj : Ts[j]? = some (l, U)) : i = j := by
  have li := (List.getElem?_eq_some_iff.mp hi).1
  have lj := (List.getElem?_eq_some_iff.mp hj).1
  refine (List.getElem_inj (h₀ := by rw [List.length_map]; exact li) (h₁ := by rw [List.length_map]; exact lj) nd).mp ?_
  rw [List.getElem_map, List.getElem_map]
  have e1 : Ts[i] = (l, T) := (List.getElem?_eq_some_iff.mp hi).2
  have e2 : Ts[j] = (l, U) := (List.getElem?_eq_some_iff.mp hj).2
  rw [e1, e2]
theorem TbK.get {H : Hp} {kvs : List (Key × V)} {Ts : List LT} (h : TbK H kvs Ts) (nd : (Ts.map (·.1)).Nodup) {i : Nat} {l : PySem.Str} {T : List Nat} (hi : Ts[i]? = some (l, T)) : ∃ t, valV kvs (.inr l) = some (.ref t) ∧ H t = some (.lst (nv T)) := by
  obtain ⟨t, a, b⟩ := h.2 i l T hi
  refine ⟨t, valV_some (fun j e hj ej => ?_) a, b⟩
  obtain ⟨k, v⟩ := e
  obtain ⟨l2, T2, t2, q1, q2, q3, q4⟩ := h.at hj
  have ej : k = .inr l := ej
  rw [q2] at ej
  have : l2 = l := Sum.inr.inj ej
  subst this
  exact nd_at nd q1 hi
theorem TbK.none {H : Hp} {kvs : List (Key × V)} {Ts : List LT} (h : TbK H kvs Ts) {l : PySem.Str} (hl : l ∉ Ts.map (·.1)) : valV kvs (.inr l) = .none := valV_none fun i e he z => by
  obtain ⟨k, v⟩ := e
  obtain ⟨l2, T2, t2, q1, q2, q3, q4⟩ := h.at he
  have z : k = .inr l := z
  rw [q2] at z
  exact hl (List.mem_map.mpr ⟨_, List.mem_of_getElem? q1, Sum.inr.inj z⟩)
/-- the table of the letter -/
def tabT (Ts : List LT) (l : PySem.Str) : List Nat := ((Ts.find? fun e => decide (e.1 = l)).map (·.2)).getD []
theorem tab_at : ∀ {Ts : List LT} {i : Nat} {l : PySem.Str} {T : List Nat}, (Ts.map (·.1)).Nodup → Ts[i]? = some (l, T) → tabT Ts l = T
  | [], _, _, _, _, h => by simp at h
  | e :: Ts, 0, l, T, _, h => by
    have : e = (l, T) := by simpa using h
    subst this
    simp [tabT, List.find?_cons]
  | e :: Ts, i + 1, l, T, nd, h => by
    rw [List.map_cons, List.nodup_cons] at nd
    have hi : Ts[i]? = some (l, T) := by simpa using h
    have ne : ¬ e.1 = l := fun z => nd.1 (by rw [z]; exact List.mem_map.mpr ⟨_, List.mem_of_getElem? hi, rfl⟩)
    have ih := tab_at nd.2 hi
    unfold tabT at ih ⊢
    rw [List.find?_cons, decide_eq_false ne]
    exact ih
theorem tab_ex {Ts : List LT} (nd : (Ts.map (·.1)).Nodup) {l : PySem.Str} (h : l ∈ Ts.map (·.1)) : ∃ i : Nat, Ts[i]? = some (l, tabT Ts l) := by
  obtain ⟨e, he, rfl⟩ := List.mem_map.mp h
  obtain ⟨i, hi, q⟩ := List.getElem_of_mem he
  have q2 : Ts[i]? = some (e.1, e.2) := by rw [List.getElem?_eq_getElem hi, q]
  exact ⟨i, by rw [tab_at nd q2]; exact q2⟩
theorem merge_new : ∀ {kvs acc : List (Key × V)}, (kvs.map (·.1)).Nodup → (∀ e ∈ kvs, valV acc e.1 = none) → mergeK acc kvs = acc ++ kvs
  | [], acc, _, _ => by simp [mergeK]
  | e :: kvs, acc, nd, h => by
    rw [List.map_cons, List.nodup_cons] at nd
    have h0 := h e List.mem_cons_self
    show mergeK (putK acc e.1 e.2) kvs = _
    rw [putK_new _ h0, merge_new (acc := acc ++ [(e.1, e.2)]) nd.2 fun q hq => ?_]
    · simp
    · rw [valV_snoc _ _ _ _ h0, if_neg]
      · exact h q (List.mem_cons_of_mem _ hq)
      · exact fun z => nd.1 (by rw [← z]; exact List.mem_map.mpr ⟨q, hq, rfl⟩)
theorem TbK.keys {H : Hp} {kvs : List (Key × V)} {Ts : List LT} (h : TbK H kvs Ts) : kvs.map (·.1) = (Ts.map (·.1)).map Sum.inr := by
  apply List.ext_getElem?
  intro i
  rw [List.map_map, List.getElem?_map, List.getElem?_map]
  cases e : Ts[i]? with
  | none =>
    have : Ts.length ≤ i := List.getElem?_eq_none_iff.mp e
    rw [List.getElem?_eq_none_iff.mpr (by rw [h.1]; exact this)]
    rfl
  | some p =>
    obtain ⟨l, T⟩ := p
    obtain ⟨t, a, _⟩ := h.2 i l T e
    rw [a]
    rfl
theorem nodup_inr {xs : List PySem.Str} (h : xs.Nodup) : (xs.map (Sum.inr : PySem.Str → Key)).Nodup := by
  show (xs.map (Sum.inr : PySem.Str → Key)).Pairwise (· ≠ ·)
  rw [List.pairwise_map]
  exact List.Pairwise.imp (fun {a b} n z => n (Sum.inr.inj z)) h
theorem TbK.merge {H : Hp} {kvs : List (Key × V)} {Ts : List LT} (h : TbK H kvs Ts) (nd : (Ts.map (·.1)).Nodup) : mergeK [] kvs = kvs := by
  rw [merge_new (by rw [h.keys]; exact nodup_inr nd) fun e _ => rfl]
  rfl
section
variable {P : Program} {w : World} {K : PySem.W.Frag} {σ : L2.St} {H H1 : Hp} {ta tb te tk tv to : TE} {D : Ends} {d : Addr} {tt : TT} {i j : Nat} {k : Key} {v : V}
/-- for k, v in d.items(): if ..: raise -/
theorem s_itemsN {tr : TS} {kvs : List (Key × V)} (Pσ : L2.St → Prop) (hd : H d = some (.dK kvs)) (he : ∀ H', Ev te σ H' (.ref d)) (h0 : Pσ σ) (hP : ∀ σ' u v, Pσ σ' → Pσ ((σ'.set i (some u)).set j (some v)))
    (ht : ∀ od (n : Nat) k v σ' H2, kvs[n]? = some (k, v) → Pσ σ' → Ex (L2.upd H d (.frz od (.dK kvs))) H2 → EvT tt ((σ'.set i (some (kV k))).set j (some v)) H2 false) (hr : ∀ σ' H2, Pσ σ' → Ex H H2 → D.nx σ' H2) :
    tLock (tFor (iItems te) (gTup K 2 (gCons (gName i) (gCons (gName j) gNil))) (tIfS tt tr tNext)) D σ H := by
  refine ⟨d, _, hd, trivial, fun od => ?_⟩
  refine he _ _ (Ex.refl _) _ fun H1 e1 => ⟨d, od, _, rfl, e1 _ _ upd_same, ?_⟩
  refine ⟨fun n m σ' H' => Ex (L2.upd H d (.frz od (.dK kvs))) H' ∧ n ≤ kvs.length ∧ m = kvs.length - n ∧ Pσ σ', ⟨kvs.length, e1, Nat.zero_le _, rfl, h0⟩, ?_⟩
  rintro n m σ' H' ⟨e, hn, rfl, hp⟩
  cases q : kvs[n]? with
  | some kv =>
    obtain ⟨k, v⟩ := kv
    have hlt := (List.getElem?_eq_some_iff.mp q).1
    refine .inr ⟨⟨e _ _ upd_same, hlt⟩, fun σ2 H2 => Ex (L2.upd H d (.frz od (.dK kvs))) H2 ∧ Pσ σ2, fun σ2 H2 ⟨p1, p2⟩ => ⟨kvs.length - (n + 1), by omega, p1, hlt, rfl, p2⟩, fun y H3 hy => ?_⟩
    obtain ⟨T, k', v', hk, rfl, hT, rfl⟩ := hy
    rw [q] at hk
    cases hk
    have new : Ex H' (L2.upd H' T (.tup [kV k, v])) := Ex.new hT
    refine ⟨T, _, rfl, st_of upd_same, rfl, _, _, rfl, _, _, rfl, rfl, ?_⟩
    exact ht od n k v σ' _ q hp (e.trans new) _ (Ex.refl _) _ fun H4 e4 => ⟨(e.trans new).trans e4, hP _ _ _ hp⟩
  | none =>
    have z : n = kvs.length := Nat.le_antisymm hn (List.getElem?_eq_none_iff.mp q)
    subst z
    exact .inl ⟨⟨e _ _ upd_same, Nat.le_refl _⟩, lock_ex hd e |>.1, hr _ _ hp (lock_ex hd e).2⟩
/-- {k: list(v) for k, v in d.items()} -/
theorem en_copyN {vs : List Nat} {kvs : List (Key × V)} {Ts : List LT} (nd : (Ts.map (·.1)).Nodup) (hz : Ts.length ≤ 1000) (he : ∀ H', Ev te σ H' (.ref d)) (hi : ∀ u v, ((((wipe σ vs).set i (some u)).set j (some v)))[i]? = some (some u)) (hj : ∀ u v, ((((wipe σ vs).set i (some u)).set j (some v)))[j]? = some (some v))
    (hw : ∀ u v, wipe (((wipe σ vs).set i (some u)).set j (some v)) vs = wipe σ vs) (H1 : Hp) (hd1 : H1 d = some (.dK kvs)) (hT1 : TbK H1 kvs Ts) (Q : VK) (hQ : ∀ p ks H2, H1 p = none → Ex H1 H2 → H2 p = some (.dK ks) → DK H1 H2 (fun n => (Ts.getD n lt0).1) (fun n o => o = .lst (nv (Ts.getD n lt0).2)) Ts.length ks → Q (.ref p) H2) :
    tLockE (tDc (iItems te) (gTup K 2 (gCons (gName i) (gCons (gName j) gNil))) tYes (tVar i) (tCB (rListS K) (tCons (tVar j) tNil)) vs) σ H1 Q := by
  refine ⟨d, _, hd1, trivial, fun od => ?_⟩
  refine he _ _ (Ex.refl _) _ fun H3 e3 => ⟨d, od, _, rfl, e3 _ _ upd_same, fun p hp => ?_⟩
  have hpd : p ≠ d := fun z => by rw [z, e3 _ _ upd_same] at hp; cases hp
  have hp1 : H1 p = none := by
    cases z : H1 p with
    | none => rfl
    | some o => rw [e3 p o (by rw [upd_ne hpd]; exact z)] at hp; cases hp
  have ex0 : Ex (L2.upd H1 d (.frz od (.dK kvs))) (L2.upd H3 p (.dK [])) := e3.trans (Ex.new hp)
  have kl := hT1.1
  refine ⟨fun n m H' => n ≤ kvs.length ∧ m = kvs.length - n ∧ Ex (L2.upd H1 d (.frz od (.dK kvs))) H' ∧ ∃ ks, H' p = some (.dK ks) ∧ ks.length = n ∧ ∀ q, q < n → ∃ r, ks[q]? = some (.inr (Ts.getD q lt0).1, .ref r) ∧ H1 r = none ∧ r ≠ p ∧ r ≠ d ∧ H' r = some (.lst (nv (Ts.getD q lt0).2)), ⟨kvs.length, Nat.zero_le _, rfl, ex0, [], upd_same, rfl, fun q hq => absurd hq (Nat.not_lt_zero q)⟩, ?_⟩
  rintro n m H' ⟨hn, rfl, e, ks, h1, hks, hq⟩
  cases c : kvs[n]? with
  | some kv =>
    obtain ⟨k, v⟩ := kv
    have hlt := (List.getElem?_eq_some_iff.mp c).1
    obtain ⟨l, T, t, c1, rfl, rfl, ht⟩ := hT1.at c
    have gn : Ts.getD n lt0 = (l, T) := by rw [List.getD_eq_getElem?_getD, c1]; rfl
    have htd : t ≠ d := fun z => by rw [z, hd1] at ht; cases ht
    refine .inr ⟨⟨e _ _ upd_same, hlt⟩, fun H' => Ex (L2.upd H1 d (.frz od (.dK kvs))) H' ∧ ∃ ks, H' p = some (.dK ks) ∧ ks.length = n + 1 ∧ ∀ q, q < n + 1 → ∃ r, ks[q]? = some (.inr (Ts.getD q lt0).1, .ref r) ∧ H1 r = none ∧ r ≠ p ∧ r ≠ d ∧ H' r = some (.lst (nv (Ts.getD q lt0).2)), fun H' ⟨g1, ks', g2, g3, g4⟩ => ⟨kvs.length - (n + 1), by omega, hlt, rfl, g1, ks', g2, g3, g4⟩, fun y H4 hy => ?_⟩
    obtain ⟨X, k', v', hk, rfl, hX, rfl⟩ := hy
    rw [c] at hk
    cases hk
    have new : Ex H' (L2.upd H' X (.tup [kV (.inr l), .ref t])) := Ex.new hX
    refine ⟨X, _, rfl, st_of upd_same, rfl, _, _, rfl, _, _, rfl, rfl, hw _ _, ⟨_, hi _ _, _, hj _ _, ?_⟩⟩
    generalize hH5 : L2.upd H' X (.tup [kV (.inr l), .ref t]) = H5 at new
    have e5 := e.trans new
    have ht5 : SqL K H5 t (nv T) := sq_of (e5 t _ (by rw [upd_ne htd]; exact ht))
    refine ⟨t, nv T, rfl, .inl ht5, fun r hr => ?_⟩
    have hp5 : H5 p = some (.dK ks) := new _ _ h1
    have hrp : r ≠ p := fun z => by rw [z, hp5] at hr; cases hr
    have hd5 : H5 d = some (.frz od (.dK kvs)) := e5 _ _ upd_same
    have hrd : r ≠ d := fun z => by rw [z, hd5] at hr; cases hr
    have hr1 : H1 r = none := by
      cases z : H1 r with
      | none => rfl
      | some o => rw [e5 r o (by rw [upd_ne hrd]; exact z)] at hr; cases hr
    have newk : valV ks (.inr l) = none := valV_none fun q ee hee z => by
      have hqn : q < n := by have := (List.getElem?_eq_some_iff.mp hee).1; omega
      obtain ⟨r', q1, _⟩ := hq q hqn
      rw [hee] at q1
      have q2 := Option.some.inj q1
      subst q2
      have z : (Ts.getD q lt0).1 = l := Sum.inr.inj z
      have hqT : q < Ts.length := by omega
      have q3 : Ts[q]? = some (l, (Ts.getD q lt0).2) := by
        rw [List.getD_eq_getElem?_getD, List.getElem?_eq_getElem hqT, Option.getD_some] at z ⊢
        rw [← z]
      have := nd_at nd q3 c1
      omega
    refine ⟨ks, .inr l, rfl, by rw [upd_ne (Ne.symm hrp)]; exact hp5, sz_lt (by omega), fun b o hb => ?_, ks ++ [(.inr l, .ref r)], by rw [upd_same, putK_new _ newk], by rw [List.length_append, hks]; rfl, fun q hqn => ?_⟩
    · have h5 := e5 b o hb
      have n1 : b ≠ r := fun z => by rw [z, hr] at h5; cases h5
      have n2 : b ≠ p := fun z => by
        subst z
        rw [upd_ne hpd, hp1] at hb; cases hb
      rw [upd_ne n2, upd_ne n1]; exact h5
    · by_cases hqn2 : q < n
      · obtain ⟨r', q1, q2, q3, q4, q5⟩ := hq q hqn2
        refine ⟨r', by rw [List.getElem?_append_left (by omega)]; exact q1, q2, q3, q4, ?_⟩
        have h5 := new _ _ q5
        rw [upd_ne q3, upd_ne (fun z => by rw [z, hr] at h5; cases h5)]
        exact h5
      · have hqe : q = n := by omega
        subst hqe
        refine ⟨r, ?_, hr1, hrp, hrd, ?_⟩
        · rw [List.getElem?_append_right (by omega), hks, Nat.sub_self, gn]; rfl
        · rw [upd_ne hrp, upd_same, gn]
  | none =>
    have z : n = kvs.length := Nat.le_antisymm hn (List.getElem?_eq_none_iff.mp c)
    subst z
    have l := lock_ex hd1 e
    refine .inl ⟨⟨l.1, Nat.le_refl _⟩, l.1, hQ p ks _ hp1 l.2 (by rw [upd_ne hpd]; exact h1) ⟨by rw [hks, kl], fun q hqn => ?_⟩⟩
    obtain ⟨r, q1, q2, q3, q4, q5⟩ := hq q (by omega)
    exact ⟨r, _, q1, q2, by rw [upd_ne q4]; exact q5, rfl⟩
theorem dk_tb {H1 H2 : Hp} {Ts : List LT} {ks : List (Key × V)} (h : DK H1 H2 (fun n => (Ts.getD n lt0).1) (fun n o => o = .lst (nv (Ts.getD n lt0).2)) Ts.length ks) : TbK H2 ks Ts := ⟨h.1, fun i l T hi => by
  have gn : Ts.getD i lt0 = (l, T) := by rw [List.getD_eq_getElem?_getD, hi]; rfl
  obtain ⟨r, o, q1, _, q3, q4⟩ := h.2 i (List.getElem?_eq_some_iff.mp hi).1
  have q1 : ks[i]? = some (.inr (Ts.getD i lt0).1, .ref r) := q1
  rw [gn] at q1 q4
  exact ⟨r, q1, by rw [q3, q4]⟩⟩
/-- {**d, k: v} -/
theorem evp_dispN {td : TE} {a : Addr} {kvs : List (Key × V)} {xs : List V} (hd : Ev td σ H (.ref a)) (h : H a = some (.dK kvs)) (hz : kvs.length ≤ 1000) (hk : ∀ H1, Ex H H1 → Ev tk σ H1 (kV k)) (hv : EvL tv σ H xs) :
    EvP (tDispS td tk tv) σ H fun v H' => ∃ p r, v = .ref p ∧ H' p = some (.dK (putK (mergeK [] kvs) k (.ref r))) ∧ H' r = some (.lst xs) := fun H1 e Q q d hd0 => by
  have e1 : Ex H (L2.upd H1 d (.dK [])) := e.trans (Ex.new hd0)
  refine hd _ e1 _ fun H2 e2 => ⟨a, kvs, rfl, e2 _ _ upd_same, .inl ((e1.trans e2) _ _ h), (fun z => by rw [z, e _ _ h] at hd0; cases hd0), hz, fun p hp => ?_⟩
  have hpd : p ≠ d := fun z => by rw [z, e2 _ _ upd_same] at hp; cases hp
  have exd : ∀ {X : Hp} {o : HO}, Ex H1 X → Ex H1 (L2.upd X d o) := fun f b o hb => by
    have n : b ≠ d := fun z => by rw [z, hd0] at hb; cases hb
    rw [upd_ne n]; exact f b o hb
  have e3 : Ex H1 (L2.upd (L2.upd H2 d (.dK (mergeK [] kvs))) p (.dK [])) := (exd ((Ex.new hd0).trans e2)).trans (Ex.new (by rw [upd_ne hpd]; exact hp))
  generalize hH4 : L2.upd (L2.upd H2 d (.dK (mergeK [] kvs))) p (.dK []) = H4 at e3
  have hp4 : H4 p = some (.dK []) := by rw [← hH4, upd_same]
  have hd4 : H4 d = some (.dK (mergeK [] kvs)) := by rw [← hH4, upd_ne (Ne.symm hpd), upd_same]
  have hp1 : H1 p = none := by
    cases z : H1 p with
    | none => rfl
    | some o => rw [((Ex.new hd0).trans e2) p o z] at hp; cases hp
  refine hk H4 (e.trans e3) H4 (Ex.refl _) _ fun H5 e5 => hv H5 ((e.trans e3).trans e5) _ fun r H6 hr e6 h6 => ?_
  have hp6 := (e5.trans e6) _ _ hp4
  have hd6 := (e5.trans e6) _ _ hd4
  have nrp : r ≠ p := fun z => by rw [z, hp6] at h6; cases h6
  have nrd : r ≠ d := fun z => by rw [z, hd6] at h6; cases h6
  refine ⟨k, .ref r, rfl, hp6, hd6, q _ _ (exd fun b o hb => ?_) ⟨d, r, rfl, upd_same, by rw [upd_ne nrd, upd_ne nrp]; exact h6⟩⟩
  have n : b ≠ p := fun z => by rw [z, hp1] at hb; cases hb
  rw [upd_ne n]; exact (e3.trans (e5.trans e6)) b o hb
/-- for low, high in facts -/
theorem ei_own {CF : Addr} {a : Addr} {dx r o : Addr} {pr : PySem.Str} {ys : List V} (h : Ev te σ H (.ref a)) (h1 : H a = some (.ins CF dx (fF r pr o))) (h2 : H r = some (.tup ys)) : EvI (iOwnT K CF "_rows" te) σ H ys := fun H1 e R q => h H1 e _ fun H2 e2 =>
  ⟨a, dx, _, r, ys, rfl, (e.trans e2) _ _ h1, rfl, ex_t (e.trans e2) (st_of h2), q _ H2 H e2 (Ex.refl H) (e.trans e2) (fun _ n _ => n) (goes_t fun H3 e3 => ex_t e3 (st_of h2))⟩
end
end Z
end
/-! Y11 -/
set_option linter.all false
set_option maxRecDepth 100000
set_option maxHeartbeats 4000000
noncomputable section
namespace Z
open PySem PySem.Spec PyProof.Rows L2 PySem.Froz Evl TS

def shownT (Ts : List LT) (n : Nat) (x : PySem.Str) : List Nat := if x = "1" then List.range n else tabT Ts x
/-- what a world is made of: n steps, tables, told pairs, paired dials; no places -/
structure WOk (n : Nat) (Ts : List LT) (rows : List Pr) (pr : PySem.Str) : Prop where
  n1 : 1 ≤ n
  n60 : n ≤ 60
  one : ∀ e ∈ Ts, One e.1
  ris : ∀ e ∈ Ts, Ris e.2
  len : ∀ e ∈ Ts, e.2.length = n
  nd : (Ts.map (·.1)).Nodup
  tz : Ts.length ≤ 100
  ok : RowsOk rows
  rz : rows.length ≤ 24
  pd : PdS pr
  pz : pr.length ≤ 100
  pnd : (TS.signs pr).Nodup
  has : ∀ d ∈ fdials rows pr, d ∈ Ts.map (·.1)
  hrow : ∀ r ∈ rows, (r.1 = "1" ∨ r.1 ∈ Ts.map (·.1)) ∧ (r.2 = "1" ∨ r.2 ∈ Ts.map (·.1))
  hpr : ∀ l ∈ TS.signs pr, l ∈ Ts.map (·.1)
  kept : ∀ r ∈ rows, ∀ c, c < n → (shownT Ts n r.1).getD c 0 ≤ (shownT Ts n r.2).getD c 0
  zero : ∀ l ∈ TS.signs pr, (tabT Ts l).getD 0 0 = 0
section
variable {P : Program} {w : World} {K : PySem.W.Frag} {mg : PySem.Str → Option Value} {base : Heap} {f f1 f2 f3 f4 f5 CF CW fD fP pP fI : Addr} {fd fd1 fd2 fd3 fd4 fd5 fdD fdP : FuncData}
/-! ### check_places, _check_tables -/
theorem s_items0 {σ : L2.St} {H : Hp} {te : TE} {d : Addr} {D : Ends} {g : TG} {tb : TS} (hd : H d = some (.dK [])) (he : ∀ H', Ev te σ H' (.ref d)) (hr : ∀ H2, Ex H H2 → D.nx σ H2) : tLock (tFor (iItems te) g tb) D σ H := by
  refine ⟨d, _, hd, trivial, fun od => ?_⟩
  refine he _ _ (Ex.refl _) _ fun H1 e1 => ⟨d, od, _, rfl, e1 _ _ upd_same, ?_⟩
  refine ⟨fun n m σ' H' => Ex (L2.upd H d (.frz od (.dK []))) H' ∧ n = 0 ∧ σ' = σ, ⟨0, e1, rfl, rfl⟩, ?_⟩
  rintro n m σ' H' ⟨e, rfl, rfl⟩
  exact .inl ⟨⟨e _ _ upd_same, by simp⟩, lock_ex hd e |>.1, hr _ (lock_ex hd e).2⟩
abbrev s_checkP : Stmt := top 29
abbrev nCheckP : List PySem.Str := ["places", "steps", "point", "stand"]
def spCheckP : Sp := fun vs H Q _ => ∃ (a : Addr) (n : Int), vs = [.ref a, .int n] ∧ H a = some (.dK []) ∧ RetV .non H Q
theorem scCheckP : FnScope nCheckP ["places", "steps"] (defScope s_checkP) := ⟨rfl, rfl, rfl, by decide +kernel, rfl, by decide +kernel, by decide +kernel⟩
theorem ok_checkP (D : Dat K mg "check_places" s_checkP ["places", "steps"] f fd) : FnOk P w K mg base (L2.CX P w) 1 f fd ["places", "steps"] spCheckP := by
  refine D.F.okX scCheckP (fun vs H Q E h => ?_) (fun cdv A outer s H vs Q E hr h => ?_)
  · obtain ⟨a, n, rfl, _⟩ := h
    rfl
  · obtain ⟨a, n, rfl, ha, k⟩ := h
    refine ⟨_, pss_one (ps_lock (ps_for (passes_of rfl) rfl (pi_items (pv 0)) pg_no pss_no)), ?_⟩
    exact s_items0 ha (fun _ => ev_var rfl) fun H2 e2 => k H2 e2
abbrev s_checkB : Stmt := top 48
abbrev nCheckB : List PySem.Str := ["tables", "steps", "dial", "table"]
def spCheckB : Sp := fun vs H Q _ => ∃ (a : Addr) (n : Nat) (kvs : List (Key × V)) (Ts : List LT), vs = [.ref a, .int (n : Int)] ∧ H a = some (.dK kvs) ∧ TbK H kvs Ts ∧ (∀ e ∈ Ts, One e.1 ∧ Ris e.2 ∧ e.2.length = n) ∧ n ≤ 1000 ∧ RetV .non H Q
theorem scCheckB : FnScope nCheckB ["tables", "steps"] (defScope s_checkB) := ⟨rfl, rfl, rfl, by decide +kernel, rfl, by decide +kernel, by decide +kernel⟩
theorem sv_ris {a : Addr} {T : List Nat} {H : Hp} (h : SqL K H a (nv T)) (hz : T.length ≤ 1000) (R : Ris T) : SpV (spRis K) [.ref a] H (.bl true) := fun H1 e Q q E => ⟨a, T, rfl, ex_l e h, hz, R, fun H2 e2 => q H2 e2⟩
theorem ok_checkB (W : Wd mg) (D : Dat K mg "_check_tables" s_checkB ["tables", "steps"] f fd) (D1 : Dat K mg "is_small" s_is_small ["text"] f1 fd1) (G1 : FnOk P w K mg base (L2.CX P w) 1 f1 fd1 ["text"] (spB (inS smallsS)))
    (D2 : Dat K mg "rising" s_rising ["table"] f2 fd2) (G2 : FnOk P w K mg base (L2.CX P w) 1 f2 fd2 ["table"] (spRis K)) : FnOk P w K mg base (L2.CX P w) 2 f fd ["tables", "steps"] spCheckB := by
  refine D.F.okX scCheckB (fun vs H Q E h => ?_) (fun cdv A outer s H vs Q E hr h => ?_)
  · obtain ⟨a, n, kvs, Ts, rfl, _⟩ := h
    rfl
  · obtain ⟨a, n, kvs, Ts, rfl, ha, hT, hok, hz, k⟩ := h
    refine ⟨_, pss_one (ps_lock (ps_for (passes_of rfl) rfl (pi_items (pv 0)) (pg_tup rfl (pgs_cons (pg_name (i := 2) scCheckB.nd rfl (Or.inl rfl)) (pgs_cons (pg_name (i := 3) scCheckB.nd rfl (Or.inl rfl)) pgs_nil)))
      (pss_one (ps_if (PW.pt (pw_or (pt_not (pt_val (pe_call G1 hr rfl D1.g D1.k D1.b .nil pas0 (pa_cons (pv 2) pa_nil)))) (pw_or (pt_cmpR op_ne (pe_callB call_len_seq (by rfl) W.len PySem.boot_len (pa_cons (pv 3) pa_nil)) (pv 1) (nomark _)) (pw_or1 (pt_not (pt_val (pe_call G2 hr rfl D2.g D2.k D2.b .nil pas0 (pa_cons (pv 3) pa_nil)))))))) pss_no pss_nil)))), ?_⟩
    refine s_itemsN (kvs := kvs) (fun σ' => ∃ u v, σ' = [some (.ref a), some (.int (n : Int)), u, v]) ha (fun _ => ev_var rfl) ⟨_, _, rfl⟩ (fun σ' u v h => by obtain ⟨_, _, rfl⟩ := h; exact ⟨_, _, rfl⟩) (fun od m kk vv σ' H2 hm hσ e => ?_) fun σ' H2 hσ e2 => k H2 e2
    obtain ⟨u, v, rfl⟩ := hσ
    obtain ⟨l, T, t, c1, rfl, rfl, ht⟩ := hT.at hm
    obtain ⟨o1, o2, o3⟩ := hok _ (List.mem_of_getElem? c1)
    have o1 : One l := o1
    have o2 : Ris T := o2
    have o3 : T.length = n := o3
    have l1 := o1.len
    have hta : t ≠ a := fun z => by rw [z, ha] at ht; cases ht
    have ht2 : SqL K H2 t (nv T) := sq_of (e _ _ (by rw [upd_ne hta]; exact ht))
    refine et_is (et_or (et_not (et_B (ev_call (z := .bl true) (vs := [.str l]) (ea_cons (ev_var rfl) ea_nil) (by rw [← show inS smallsS l = true from o1]; exact sv_B (by omega))))) fun _ => et_or (ev_neI (ev_lenN' (ns := T) (ev_var rfl) ht2) (ev_var rfl)) fun _ => et_not (et_B (ev_call (z := .bl true) (vs := [.ref t]) (ea_cons (ev_var rfl) ea_nil) (sv_ris ht2 (by omega) o2)))) ?_
    simp [o3]
/-! ### _check_kept -/
abbrev s_checkK : Stmt := top 49
abbrev nCheckK : List PySem.Str := ["tables", "steps", "facts", "dial", "shown", "low", "high", "at"]
def spCheckK (CF : Addr) : Sp := fun vs H Q _ => ∃ (a fa : Addr) (n : Nat) (kvs : List (Key × V)) (Ts : List LT) (rows : List Pr) (pr : PySem.Str), vs = [.ref a, .int (n : Int), .ref fa] ∧ H a = some (.dK kvs) ∧ TbK H kvs Ts ∧ WOk n Ts rows pr ∧ FAt CF H fa rows pr ∧ RetV .non H Q
theorem scCheckK : FnScope nCheckK ["tables", "steps", "facts"] (defScope s_checkK) := ⟨rfl, rfl, rfl, by decide +kernel, rfl, by decide +kernel, by decide +kernel⟩
theorem sl_FD {a : Addr} {rows : List Pr} {pr : PySem.Str} {H : Hp} (h : FAt CF H a rows pr) (ok : RowsOk rows) (rz : rows.length ≤ 24) (pz : pr.length ≤ 100) : SpL (spFD CF) [.ref a] H ((fdials rows pr).map V.str) := fun H1 e Q q E => ⟨a, rows, pr, rfl, h.mono e, ok, rz, pz, fun p H2 hp e2 h2 => q p H2 hp e2 h2⟩
theorem sv_paired {a : Addr} {rows : List Pr} {pr : PySem.Str} {H : Hp} (h : FAt CF H a rows pr) : SpV (spPaired CF) [.ref a] H (.str pr) := fun H1 e Q q E => ⟨a, rows, pr, rfl, h.mono e, fun H2 e2 => q H2 e2⟩
theorem ris_len1 {T : List Nat} (h : Ris T) : 0 < T.length := h.pos
theorem ok_checkK (W : Wd mg) (FC : FCls K mg CF) (M : FMet K CF fD fP pP fI) (D : Dat K mg "_check_kept" s_checkK ["tables", "steps", "facts"] f fd) (D1 : Dat K mg "still_table" s_still ["steps"] f1 fd1) (G1 : FnOk P w K mg base (L2.CX P w) 1 f1 fd1 ["steps"] spStill)
    (DD : DatM K "dial_list" "Facts.dial_list" s_fdials ["self"] fD fdD) (GD : FnOk P w K mg base (L2.CX P w) 1 fD fdD ["self"] (spFD CF)) (DP : DatM K "paired" "Facts.paired" s_paired ["self"] fP fdP) (GP : FnOk P w K mg base (L2.CX P w) 1 fP fdP ["self"] (spPaired CF)) (GI : FnIt P w K mg base 1 fI CF "_rows") :
    FnOk P w K mg base (L2.CX P w) 3 f fd ["tables", "steps", "facts"] (spCheckK CF) := by
  refine D.F.okX scCheckK (fun vs H Q E h => ?_) (fun cdv A outer s H vs Q E hr h => ?_)
  · obtain ⟨a, fa, n, kvs, Ts, rows, pr, rfl, _⟩ := h
    rfl
  · obtain ⟨a, fa, n, kvs, Ts, rows, pr, rfl, ha, hT, ok, hF, k⟩ := h
    have hu := hr.units
    have hu1 : (A.deeper (envOfC "_check_kept" (defScope s_checkK) s.heap.objs.size f cdv)).units + 1 < cLine := by omega
    have hr1 : Room 1 _ := hr.mono (by decide)
    refine ⟨_, pss_cons (ps_for (passes_of rfl) rfl (pi_list (pe_meth0 (pv 2) FC.c M.d GD hr1 DD.b .nil (pas0 (X := cxOf (L2.CX P w) P w K mg base nCheckK "_check_kept" (defScope s_checkK) f cdv A outer s H E)))) (pg_name (i := 3) scCheckK.nd rfl (Or.inl rfl)) (pss_one (ps_if (pt_cmp (pc_dnotin hu1 (pv 3) (pv 0))) pss_no pss_nil)))
      (pss_cons (ps_set (i := 4) scCheckK.nd rfl (Or.inl rfl) (pe_dispS (pv 0) pe_str (pe_call G1 hr1 rfl D1.g D1.k D1.b .nil pas0 (pa_cons (pv 1) pa_nil))))
      (pss_cons (ps_for (passes_of rfl) rfl (pi_ownT (pv 2) M.i GI hr1) (pg_tup rfl (pgs_cons (pg_name (i := 5) scCheckK.nd rfl (Or.inl rfl)) (pgs_cons (pg_name (i := 6) scCheckK.nd rfl (Or.inl rfl)) pgs_nil)))
        (pss_one (ps_for (passes_of rfl) rfl (pi_range1 rfl W.range (pa_cons (pv 1) pa_nil)) (pg_name (i := 7) scCheckK.nd rfl (Or.inl rfl))
          (pss_one (ps_if (pt_cmpR op_gt (pe_ix ix_list (pe_dget hu1 (pv 4) (pv 5) (fun _ _ => rfl)) (pv 7) (fun _ _ => rfl)) (pe_ix ix_list (pe_dget hu1 (pv 4) (pv 6) (fun _ _ => rfl)) (pv 7) (fun _ _ => rfl)) (nomark _)) pss_no pss_nil)))))
      (pss_one (ps_for (passes_of rfl) rfl (pi_str (pe_prop (pv 2) FC.c M.p GP hr DP.b .nil (pas0 (X := (cxOf (L2.CX P w) P w K mg base nCheckK "_check_kept" (defScope s_checkK) f cdv A outer s H E).nox)) rfl)) (pg_name (i := 3) scCheckK.nd rfl (Or.inl rfl))
        (pss_one (ps_if (pt_cmpR op_ne (pe_ix ix_list (pe_dget hu1 (pv 0) (pv 3) (fun _ _ => rfl)) pe_int (fun _ _ => rfl)) pe_int (nomark _)) pss_no pss_nil)))))), ?_⟩
    obtain ⟨dxF, rF, oF, ys, hFa, hFr, hFP⟩ := hF
    have hF : FAt CF H fa rows pr := ⟨dxF, rF, oF, ys, hFa, hFr, hFP⟩
    have n60 := ok.n60
    have tz := ok.tz
    have hkl := hT.1
    refine q_forI (H := H) (ei_new (el_meth (vs := []) (ev_var rfl) hFa rfl ea_nil (sl_FD hF ok.ok ok.rz ok.pz))) (Ex.refl H) (fun _ _ σ' H' => (∃ v, σ' = [some (.ref a), some (.int (n : Int)), some (.ref fa), v, none, none, none, none]) ∧ Ex H H') (fun _ H2 _ e2 _ => ⟨⟨none, rfl⟩, e2⟩) ?_ ?_
    · rintro G i x σ' H' eG eG' hx ⟨⟨v, rfl⟩, e⟩
      rw [List.getElem?_map] at hx
      obtain ⟨d, hd, rfl⟩ := Option.map_eq_some_iff.mp hx
      obtain ⟨m, hm⟩ := tab_ex ok.nd (ok.has d (List.mem_of_getElem? hd))
      obtain ⟨t, g1, _⟩ := hT.get ok.nd hm
      exact s_when (b := false) (et_is (et_B (ev_dnotin (k := .inr d) (ev_var rfl) (ev_var rfl) (e _ _ ha))) (by rw [g1]; rfl)) (fun h => nomatch h) fun _ H2 e2 => ⟨eG'.trans e2, ⟨_, rfl⟩, e.trans e2⟩
    · rintro G σ' H' eG eG' ⟨⟨v, rfl⟩, e⟩
      refine q_asgP (evp_dispN (k := .inr "1") (ev_var rfl) (e _ _ ha) (by omega) (fun _ _ => ev_c) (el_call (ea_cons (ev_var rfl) ea_nil) (sl_still (n := n) (by omega)))) fun sv H2 e2 ⟨p, r, hsv, hp, hr0⟩ => ?_
      subst hsv
      rw [hT.merge ok.nd] at hp
      have e02 := e.trans e2
      have look : ∀ x : PySem.Str, (x = "1" ∨ x ∈ Ts.map (·.1)) → ∃ t, valV (putK kvs (.inr "1") (.ref r)) (.inr x) = some (.ref t) ∧ H2 t = some (.lst (nv (shownT Ts n x))) ∧ (shownT Ts n x).length = n := fun x hx => by
        rw [valV_put]
        unfold shownT
        by_cases h1 : x = "1"
        · rw [if_pos (by rw [h1]), if_pos h1]
          exact ⟨r, rfl, hr0, by simp⟩
        · rw [if_neg (fun z => h1 (Sum.inr.inj z)), if_neg h1]
          obtain ⟨m, hm⟩ := tab_ex ok.nd (hx.resolve_left h1)
          obtain ⟨t, g1, g2⟩ := hT.get ok.nd hm
          exact ⟨t, g1, e02 _ _ g2, ok.len _ (List.mem_of_getElem? hm)⟩
      refine q_forG (H := H2) (ei_own (K := K) (ev_var rfl) (e02 _ _ hFa) (e02 _ _ hFr)) (Ex.refl _) (fun _ σ' H' => (∃ v5 v6 v7 : Option V, σ' = [some (.ref a), some (.int (n : Int)), some (.ref fa), v, some (.ref p), v5, v6, v7]) ∧ Ex H2 H') (fun H3 e3 => ⟨⟨_, _, _, rfl⟩, e3⟩) ?_ ?_
      · rintro G2 i u σ2 H3 eG2 nG2 eG2' hu ⟨⟨v5, v6, v7, rfl⟩, e3⟩
        have e03 := e02.trans e3
        obtain ⟨x, y, tp, q1, rfl, q2⟩ := (hFP.mono e03).at hu
        have hxy := ok.hrow _ (List.mem_of_getElem? q1)
        have kp := ok.kept _ (List.mem_of_getElem? q1)
        obtain ⟨t1, a1, a2, a3⟩ := look x hxy.1
        obtain ⟨t2, b1, b2, b3⟩ := look y hxy.2
        have kp : ∀ c, c < n → (shownT Ts n x).getD c 0 ≤ (shownT Ts n y).getD c 0 := kp
        generalize shownT Ts n x = U at a2 a3 kp
        generalize shownT Ts n y = V2 at b2 b3 kp
        refine g_pair q2 ?_
        refine s_forI (H := H3) (ei_rng1 (n := (n : Int)) (ea_cons (ev_var rfl) ea_nil) (by omega) (by omega)) (Ex.refl H3) (fun _ _ σ' H' => (∃ v7 : Option V, σ' = [some (.ref a), some (.int (n : Int)), some (.ref fa), v, some (.ref p), some (.str x), some (.str y), v7]) ∧ Ex H3 H') (fun _ H4 _ e4 _ => ⟨⟨_, rfl⟩, e4⟩) ?_ ?_
        · rintro G3 c z σ4 H4 eG3 eG3' hz ⟨⟨v7, rfl⟩, e4⟩
          obtain ⟨hc, rfl⟩ := nums_at hz
          rw [Int.toNat_natCast] at hc
          rw [Int.zero_add]
          have e24 := e3.trans e4
          have kc := kp c hc
          refine s_when (b := false) (et_is (ev_ltI (g := fun i j => decide (i > j)) (ev_atN (ns := U) (k := c) (ev_dget (k := .inr x) (ev_var rfl) (ev_var rfl) (e24 _ _ hp) a1) (ev_var rfl) (sq_of (e24 _ _ a2)) (by omega)) (ev_atN (ns := V2) (k := c) (ev_dget (k := .inr y) (ev_var rfl) (ev_var rfl) (e24 _ _ hp) b1) (ev_var rfl) (sq_of (e24 _ _ b2)) (by omega))) (decide_eq_false (by omega))) (fun h => nomatch h) fun _ H5 e5 => ⟨eG3'.trans e5, ⟨_, rfl⟩, e4.trans e5⟩
        · rintro G3 σ4 H4 eG3 eG3' ⟨⟨v7, rfl⟩, e4⟩
          exact ⟨eG2'.trans e4, ⟨_, _, _, rfl⟩, e3.trans e4⟩
      · rintro σ2 H3 eH3 ⟨⟨v5, v6, v7, rfl⟩, e3⟩
        have e03 := e02.trans e3
        refine s_forI (H := H3) (ei_str (ev_prop (ev_var rfl) (e03 _ _ hFa) (sv_paired (hF.mono e03)))) (Ex.refl H3) (fun _ _ σ' H' => (∃ v, σ' = [some (.ref a), some (.int (n : Int)), some (.ref fa), v, some (.ref p), v5, v6, v7]) ∧ Ex H3 H') (fun _ H4 _ e4 _ => ⟨⟨_, rfl⟩, e4⟩) ?_ ?_
        · rintro G2 i x σ' H' eG2 eG2' hx ⟨⟨v2, rfl⟩, e4⟩
          obtain ⟨l, rfl, hl, hlm⟩ := ok.pd.at hx
          obtain ⟨m, hm⟩ := tab_ex ok.nd (ok.hpr l hlm)
          obtain ⟨t, g1, g2⟩ := hT.get ok.nd hm
          have z0 := ok.zero l hlm
          have rs := (ok.ris _ (List.mem_of_getElem? hm)).pos
          have e5 := e03.trans e4
          refine s_when (b := false) (et_is (ev_neI (ev_atN (ns := tabT Ts l) (k := 0) (ev_dget (k := .inr l) (ev_var rfl) (ev_var rfl) (e5 _ _ ha) g1) ev_c (sq_of (e5 _ _ g2)) rs) ev_c) (by rw [z0]; rfl)) (fun h => nomatch h) fun _ H5 e6 => ⟨eG2'.trans e6, ⟨_, rfl⟩, e4.trans e6⟩
        · rintro G2 σ' H' eG2 eG2' ⟨_, e4⟩
          exact k H' (e03.trans e4)
end
end Z
end
/-! Y12 -/
set_option linter.all false
set_option maxRecDepth 100000
set_option maxHeartbeats 4000000
noncomputable section
namespace Z
open PySem PySem.Spec PyProof.Rows L2 PySem.Froz Evl TS

/-- the back tables by their letters -/
def bsT (Ts : List LT) (pr : PySem.Str) : List LT := (TS.signs pr).map fun l => (Txt.upper l, backT (tabT Ts l))
def WAt (CW : Addr) (H : Hp) (a : Addr) (n : Nat) (Ts Bs : List LT) : Prop := ∃ dx fa pl tb bk kt kb, H a = some (.ins CW dx (fW fa n pl tb bk)) ∧ H tb = some (.dK kt) ∧ TbK H kt Ts ∧ H bk = some (.dK kb) ∧ TbK H kb Bs
theorem WAt.mono {CW : Addr} {H H' : Hp} {a : Addr} {n : Nat} {Ts Bs : List LT} (e : Ex H H') (h : WAt CW H a n Ts Bs) : WAt CW H' a n Ts Bs := let ⟨dx, fa, pl, tb, bk, kt, kb, h1, h2, h3, h4, h5⟩ := h; ⟨dx, fa, pl, tb, bk, kt, kb, e _ _ h1, e _ _ h2, h3.mono e, e _ _ h4, h5.mono e⟩
theorem TbK.exb {H X : Hp} {kvs : List (Key × V)} {Ts : List LT} {a : Addr} {u : HO} (h : TbK H kvs Ts) (b : ExB a H X) (ha : H a = some u) (nl : ∀ T, u ≠ .lst (nv T)) : TbK X kvs Ts := ⟨h.1, fun i l T hi => by
  obtain ⟨t, q, c⟩ := h.2 i l T hi
  exact ⟨t, q, b _ _ (fun z => by rw [z, ha] at c; exact nl T (Option.some.inj c)) c⟩⟩
theorem Prs.exb {H X : Hp} {ys : List V} {rows : List Pr} {a : Addr} {u : HO} (h : Prs H ys rows) (b : ExB a H X) (ha : H a = some u) (nl : ∀ x y, u ≠ .tup [.str x, .str y]) : Prs X ys rows := ⟨h.1, fun i x y hi => by
  obtain ⟨t, q, c⟩ := h.2 i x y hi
  exact ⟨t, q, b _ _ (fun z => by rw [z, ha] at c; exact nl x y (Option.some.inj c)) c⟩⟩
theorem up_inj_c : ∀ c ∈ smallsS.cps.toList, ∀ d ∈ smallsS.cps.toList, Txt.upper ⟨#[c]⟩ = Txt.upper ⟨#[d]⟩ → c = d := by
  have h : (smallsS.cps.toList.all fun c => smallsS.cps.toList.all fun d => !(Txt.upper ⟨#[c]⟩ == Txt.upper ⟨#[d]⟩) || c == d) = true := by decide +kernel
  intro c hc d hd e
  have z := List.all_eq_true.mp (List.all_eq_true.mp h c hc) d hd
  rw [e] at z
  simpa using z
theorem up_inj {l m : PySem.Str} (hl : One l) (hm : One m) (e : Txt.upper l = Txt.upper m) : l = m := by
  obtain ⟨c, rfl, hc⟩ := hl.sign
  obtain ⟨d, rfl, hd⟩ := hm.sign
  rw [up_inj_c c hc d hd e]
theorem up_small : ∀ c ∈ smallsS.cps.toList, inS smallsS (Txt.upper ⟨#[c]⟩) = false ∧ Txt.upper ⟨#[c]⟩ ≠ "1" := by decide +kernel
theorem one_ne1 {l : PySem.Str} (h : One l) : l ≠ "1" := by
  obtain ⟨c, rfl, hc⟩ := h.sign
  have z : ∀ c ∈ smallsS.cps.toList, (⟨#[c]⟩ : PySem.Str) ≠ "1" := by decide +kernel
  exact z c hc
theorem PdS.one {pr : PySem.Str} (h : PdS pr) {l : PySem.Str} (hl : l ∈ TS.signs pr) : One l := by
  obtain ⟨c, hc, rfl⟩ := List.mem_map.mp hl
  rw [One, inS_one]
  exact decide_eq_true (h c hc)
/-- what the letters of a world need -/
structure WD (n : Nat) (Ts Bs : List LT) : Prop where
  n0 : n ≤ 1000
  nd1 : (Ts.map (·.1)).Nodup
  nd2 : (Bs.map (·.1)).Nodup
  tb1 : ∀ e ∈ Ts, Tb n e.2
  tb2 : ∀ e ∈ Bs, Tb n e.2
  ne1 : ∀ e ∈ Ts, e.1 ≠ "1"
  ne2 : ∀ e ∈ Bs, e.1 ≠ "1"
/-- the letter x shows U -/
def Shows (Ts Bs : List LT) (x : PySem.Str) (U : List Nat) : Prop := (∃ i : Nat, Ts[i]? = some (x, U)) ∨ (x ∉ Ts.map (·.1) ∧ ∃ i : Nat, Bs[i]? = some (x, U))
theorem Ris.tb {T : List Nat} (r : Ris T) : Tb T.length T := ⟨rfl, fun k hk => by
  obtain ⟨i, hi, rfl⟩ := List.getElem_of_mem hk
  have := r.lt i hi
  simpa [hi] using this⟩
section
variable {n : Nat} {Ts : List LT} {rows : List Pr} {pr : PySem.Str} (ok : WOk n Ts rows pr)
include ok
theorem WOk.grd {l : PySem.Str} (hl : l ∈ TS.signs pr) : Grd (tabT Ts l) ∧ (tabT Ts l).length = n := by
  obtain ⟨m, hm⟩ := tab_ex ok.nd (ok.hpr l hl)
  have e1 : (tabT Ts l).length = n := ok.len _ (List.mem_of_getElem? hm)
  have n60 := ok.n60
  exact ⟨⟨ok.ris _ (List.mem_of_getElem? hm), ok.zero l hl, by omega⟩, e1⟩
theorem WOk.bnd : ((bsT Ts pr).map (·.1)).Nodup := by
  have e : (bsT Ts pr).map (·.1) = (TS.signs pr).map Txt.upper := by
    unfold bsT
    rw [List.map_map]
    rfl
  rw [e]
  show ((TS.signs pr).map Txt.upper).Pairwise (· ≠ ·)
  rw [List.pairwise_map]
  refine List.Pairwise.imp_of_mem (fun {a b} ha hb n z => n (up_inj (ok.pd.one ha) (ok.pd.one hb) z)) ok.pnd
theorem WOk.wd : WD n Ts (bsT Ts pr) := by
  have n60 := ok.n60
  refine ⟨by omega, ok.nd, ok.bnd, fun e he => ?_, fun e he => ?_, fun e he => one_ne1 (ok.one e he), fun e he => ?_⟩
  · have z := (ok.ris e he).tb
    rw [ok.len e he] at z
    exact z
  · obtain ⟨l, hl, rfl⟩ := List.mem_map.mp he
    obtain ⟨g, e1⟩ := ok.grd hl
    have z := g.backTb
    rw [e1] at z
    exact z
  · obtain ⟨l, hl, rfl⟩ := List.mem_map.mp he
    obtain ⟨c, rfl, hc⟩ := (ok.pd.one hl).sign
    exact (up_small c hc).2
/-- a told letter and its capital -/
theorem WOk.small {l : PySem.Str} (hl : l ∈ Ts.map (·.1)) : Shows Ts (bsT Ts pr) l (tabT Ts l) := .inl (tab_ex ok.nd hl)
theorem WOk.cap {l : PySem.Str} (hl : l ∈ TS.signs pr) : Shows Ts (bsT Ts pr) (Txt.upper l) (backT (tabT Ts l)) := by
  refine .inr ⟨fun h => ?_, ?_⟩
  · obtain ⟨e, he, z⟩ := List.mem_map.mp h
    have o := ok.one e he
    obtain ⟨c, hc, h2⟩ := (ok.pd.one hl).sign
    have z2 := (up_small c h2).1
    rw [← hc, ← z] at z2
    rw [One] at o
    rw [o] at z2
    cases z2
  · obtain ⟨i, hi, e⟩ := List.getElem_of_mem hl
    refine ⟨i, ?_⟩
    unfold bsT
    rw [List.getElem?_map, List.getElem?_eq_getElem hi, e]
    rfl
end
section
variable {P : Program} {w : World} {K : PySem.W.Frag} {mg : PySem.Str → Option Value} {base : Heap} {f f1 f2 f3 f4 f5 f6 CF CW fD fP pP fI : Addr} {fd fd1 fd2 fd3 fd4 fd5 fd6 fdD fdP : FuncData}
abbrev c_world : Stmt := top 53
abbrev s_winit : Stmt := inClass c_world 1
abbrev nWI : List PySem.Str := ["self", "steps", "places", "tables", "facts", "dial", "table"]
abbrev pWI : List PySem.Str := ["self", "steps", "places", "tables", "facts"]
def spWI (CF CW : Addr) : Sp := fun vs H Q _ => ∃ (a dx pl tb fa : Addr) (n : Nat) (kvs : List (Key × V)) (Ts : List LT) (rows : List Pr) (pr : PySem.Str), vs = [.ref a, .int (n : Int), .ref pl, .ref tb, .ref fa] ∧ H a = some (.ins CW dx []) ∧ H pl = some (.dK []) ∧ H tb = some (.dK kvs) ∧ TbK H kvs Ts ∧ FAt CF H fa rows pr ∧ WOk n Ts rows pr ∧
  ∀ H2, ExB a H H2 → WAt CW H2 a n Ts (bsT Ts pr) → Q .non H2
theorem scWI : FnScope nWI pWI (defScope s_winit) := ⟨rfl, rfl, rfl, by decide +kernel, rfl, by decide +kernel, by decide +kernel⟩
theorem ok_winit (W : Wd mg) (FC : FCls K mg CF) (WC : WCls K mg CW) (M : FMet K CF fD fP pP fI) (D : DatD K "__init__" "World.__init__" s_winit [.non] [] pWI f fd)
    (D1 : Dat K mg "check_steps" s_check_steps ["many", "most"] f1 fd1) (G1 : FnOk P w K mg base (L2.CX P w) 1 f1 fd1 ["many", "most"] spSteps) (D2 : Dat K mg "check_places" s_checkP ["places", "steps"] f2 fd2) (G2 : FnOk P w K mg base (L2.CX P w) 1 f2 fd2 ["places", "steps"] spCheckP)
    (D3 : Dat K mg "_check_tables" s_checkB ["tables", "steps"] f3 fd3) (G3 : FnOk P w K mg base (L2.CX P w) 2 f3 fd3 ["tables", "steps"] spCheckB) (D4 : Dat K mg "told_facts" s_told ["facts"] f4 fd4) (G4 : FnOk P w K mg base (L2.CX P w) 1 f4 fd4 ["facts"] spTold)
    (D5 : Dat K mg "_check_kept" s_checkK ["tables", "steps", "facts"] f5 fd5) (G5 : FnOk P w K mg base (L2.CX P w) 3 f5 fd5 ["tables", "steps", "facts"] (spCheckK CF)) (D6 : Dat K mg "back_table" s_back ["table"] f6 fd6) (G6 : FnOk P w K mg base (L2.CX P w) 2 f6 fd6 ["table"] (spBack K))
    (DP : DatM K "paired" "Facts.paired" s_paired ["self"] fP fdP) (GP : FnOk P w K mg base (L2.CX P w) 1 fP fdP ["self"] (spPaired CF)) :
    FnOk P w K mg base (L2.CX P w) 4 f fd pWI (spWI CF CW) := by
  obtain ⟨mc, tk, cr, cv⟩ := WC.most
  refine D.F.ok scWI (fun vs H Q E h => ?_) (fun cdv A outer s H vs Q E hr h => ?_)
  · obtain ⟨a, dx, pl, tb, fa, n, kvs, Ts, rows, pr, rfl, _⟩ := h
    rfl
  · obtain ⟨a, dx, pl, tb, fa, n, kvs, Ts, rows, pr, rfl, ha, hpl, htb, hT, hF, ok, k⟩ := h
    have hu := hr.units
    have hu1 : (A.deeper (envOfC "World.__init__" (defScope s_winit) s.heap.objs.size f cdv)).units + 1 < cLine := by omega
    have hr1 : Room 1 _ := hr.mono (by decide)
    have hr2 : Room 2 _ := hr.mono (by decide)
    refine ⟨_, pss_cons (ps_expr (pe_call G1 hr1 rfl D1.g D1.k D1.b .nil pas0 (pa_cons (pv 1) (pa_cons (ClX.pe_cval (pe_glob (v := .ref CW) rfl WC.g rfl)) pa_nil))))
      (pss_cons (ps_expr (pe_call G2 hr1 rfl D2.g D2.k D2.b .nil pas0 (pa_cons (pv 2) (pa_cons (pv 1) pa_nil))))
      (pss_cons (ps_expr (pe_call G3 hr2 rfl D3.g D3.k D3.b .nil pas0 (pa_cons (pv 3) (pa_cons (pv 1) pa_nil))))
      (pss_cons (ps_fld (pv 0) (pe_call G4 hr1 rfl D4.g D4.k D4.b .nil pas0 (pa_cons (pv 4) pa_nil)) rfl)
      (pss_cons (ps_expr (pe_call G5 hr rfl D5.g D5.k D5.b .nil pas0 (pa_cons (pv 3) (pa_cons (pv 1) (pa_cons (pe_fld (pv 0) rfl) pa_nil)))))
      (pss_cons (ps_fld (pv 0) (pv 1) rfl)
      (pss_cons (ps_fld (pv 0) (pe_callTy call_dictD rfl W.dict (by decide +kernel) (pa_cons (pv 2) pa_nil)) rfl)
      (pss_cons (ps_fld (pv 0) (pe_lock (pe_dc (own := [("dial", 5), ("table", 6)]) (g := gTup K 2 (gCons (gName 5) (gCons (gName 6) gNil))) (tt := tYes) (tk := tVar 5) (tv := tCB (rListS K) (tCons (tVar 6) tNil)) rfl scWI.nd (pi_items (pv 3)) (blkOk_by (N := nWI) (sc := defScope s_winit) (by decide +kernel))
          (fun _ _ _ _ _ => pg_tup rfl (pgs_cons (pg_name (i := 5) scWI.nd rfl (Or.inl rfl)) (pgs_cons (pg_name (i := 6) scWI.nd rfl (Or.inl rfl)) pgs_nil))) (fun _ _ _ _ _ => pts_nil) (fun _ _ _ _ _ => pv 5) (fun _ _ _ _ _ => pe_callTy call_list_of rfl W.list PyProof.Rows.boot_list (pa_cons (pv 6) pa_nil)))) rfl)
      (pss_one (ps_fld (pv 0) (pe_dc (own := [("dial", 5)]) (g := gName 5) (tt := tYes) (tk := tM0 (fun x xs H Q => ∃ a, x = .str a ∧ xs = [] ∧ a.length ≤ 5592405 ∧ Q (.str (Txt.upper a)) H) (tVar 5)) (tv := tCall (spBack K) [] E0 (tCons (tDGet (tVar 3) (tVar 5)) tNil)) rfl scWI.nd (pi_str (pe_prop (pe_fld (pv 0) rfl) FC.c M.p GP hr2 DP.b .nil (pas0 (X := (cxOf (L2.CX P w) P w K mg base nWI "World.__init__" (defScope s_winit) f cdv A outer s H E).nox)) rfl)) (blkOk_by (N := nWI) (sc := defScope s_winit) (by decide +kernel))
          (fun _ _ _ _ _ => pg_name (i := 5) scWI.nd rfl (Or.inl rfl)) (fun _ _ _ _ _ => pts_nil) (fun _ _ _ _ _ => pe_upper (pv 5)) (fun _ _ _ _ _ => pe_call G6 hr2 rfl D6.g D6.k D6.b .nil pas0 (pa_cons (pe_dget hu1 (pv 3) (pv 5) (fun _ _ => rfl)) pa_nil))) rfl))))))))), ?_⟩
    obtain ⟨dxF, rF, oF, ysF, hFa, hFr, hFP⟩ := hF
    have nF : fa ≠ a := fun z => by rw [z, ha] at hFa; cases hFa
    have nR : rF ≠ a := fun z => by rw [z, ha] at hFr; cases hFr
    have nP : pl ≠ a := fun z => by rw [z, ha] at hpl; cases hpl
    have nB : tb ≠ a := fun z => by rw [z, ha] at htb; cases htb
    have fF' : ∀ {X : Hp}, ExB a H X → FAt CF X fa rows pr := fun b => ⟨dxF, rF, oF, ysF, b _ _ nF hFa, b _ _ nR hFr, hFP.exb b ha (fun _ _ z => nomatch z)⟩
    have tB' : ∀ {X : Hp}, ExB a H X → TbK X kvs Ts := fun b => hT.exb b ha (fun _ z => nomatch z)
    have n1 := ok.n1
    have n60 := ok.n60
    have tz := ok.tz
    have pz := ok.pz
    refine q_drop (ev_call (z := .non) (ea_cons (ev_var rfl) (ea_cons (ev_cval cr cv) ea_nil)) (sv_steps (by omega) (by omega))) fun H1 e1 => ?_
    refine q_drop (ev_call (z := .non) (vs := [.ref pl, .int (n : Int)]) (ea_cons (ev_var rfl) (ea_cons (ev_var rfl) ea_nil)) fun X e Q1 q1 E1 => ⟨pl, _, rfl, (e1.trans e) _ _ hpl, fun H2 e2 => q1 H2 e2⟩) fun H2 e2 => ?_
    have e12 := e1.trans e2
    refine q_drop (ev_call (z := .non) (vs := [.ref tb, .int (n : Int)]) (ea_cons (ev_var rfl) (ea_cons (ev_var rfl) ea_nil)) fun X e Q1 q1 E1 => ⟨tb, n, kvs, Ts, rfl, (e12.trans e) _ _ htb, hT.mono (e12.trans e), fun x hx => ⟨ok.one x hx, ok.ris x hx, ok.len x hx⟩, by omega, fun H2 e2 => q1 H2 e2⟩) fun H3 e3 => ?_
    have e13 := e12.trans e3
    refine q_fldV (v := .ref fa) (ev_call (vs := [.ref fa]) (ea_cons (ev_var rfl) ea_nil) fun X e Q1 q1 E1 => ⟨fa, rfl, fun H2 e2 => q1 H2 e2⟩) (ev_var rfl) (e13 _ _ ha) WC.c WC.n1 (by simp) fun H4 e4 => ?_
    generalize hA : L2.upd H4 a (.ins CW dx (putF "_facts" (.ref fa) [])) = HA
    have aA : HA a = some (.ins CW dx [("_facts", .ref fa)]) := by rw [← hA, upd_same]; rfl
    have bA : ExB a H HA := by rw [← hA]; exact (ExB.of (e13.trans e4)).trans .upd
    refine q_drop (ev_call (z := .non) (vs := [.ref tb, .int (n : Int), .ref fa]) (ea_cons (ev_var rfl) (ea_cons (ev_var rfl) (ea_cons (ev_fld (K := K) (ev_var rfl) aA WC.c WC.n1 rfl) ea_nil))) fun X e Q1 q1 E1 =>
      ⟨tb, fa, n, kvs, Ts, rows, pr, rfl, e _ _ (bA _ _ nB htb), (tB' bA).mono e, ok, (fF' bA).mono e, fun H2 e2 => q1 H2 e2⟩) fun H5 e5 => ?_
    refine q_fldV (v := .int (n : Int)) (ev_var rfl) (ev_var rfl) (e5 _ _ aA) WC.c WC.n2 (by simp) fun H6 e6 => ?_
    generalize hB : L2.upd H6 a (.ins CW dx (putF "_steps" (.int (n : Int)) [("_facts", .ref fa)])) = HB
    have aB : HB a = some (.ins CW dx [("_facts", .ref fa), ("_steps", .int (n : Int))]) := by rw [← hB, upd_same]; rfl
    have bB : ExB a H HB := by rw [← hB]; exact (bA.trans (.of (e5.trans e6))).trans .upd
    refine q_fldP (evp_N (o := .dK []) (fun X e Q1 q1 => ⟨.ref pl, rfl, pl, [], rfl, .inl (e _ _ (bB _ _ nP hpl)), fun p hp => q1 p _ hp (Ex.new hp) upd_same⟩) aB) (ev_var rfl) aB WC.c WC.n3 (by simp) stays_N fun v H7 e7 ⟨pc, hv, hpc, npc⟩ => ?_
    subst hv
    generalize hC : L2.upd H7 a (.ins CW dx (putF "_places" (.ref pc) [("_facts", .ref fa), ("_steps", .int (n : Int))])) = HC
    have aC : HC a = some (.ins CW dx [("_facts", .ref fa), ("_steps", .int (n : Int)), ("_places", .ref pc)]) := by rw [← hC, upd_same]; rfl
    have bC : ExB a H HC := by rw [← hC]; exact (bB.trans (.of e7)).trans .upd
    refine q_fldP (R := fun v H' => ∃ p ks, v = .ref p ∧ H' p = some (.dK ks) ∧ TbK H' ks Ts ∧ p ≠ a) (fun X e Q1 q1 => en_copyN ok.nd (by omega) (fun _ => ev_var rfl) (fun _ _ => rfl) (fun _ _ => rfl) (fun _ _ => rfl) X (e _ _ (bC _ _ nB htb)) ((tB' bC).mono e) Q1 fun p ks Y hp eY hY dk => q1 _ Y eY ⟨p, ks, rfl, hY, dk_tb dk, fun z => by rw [z, e _ _ aC] at hp; cases hp⟩) (ev_var rfl) aC WC.c WC.n4 (by simp) (fun v X Y e ⟨p, ks, g1, g2, g3, g4⟩ => ⟨p, ks, g1, e _ _ g2, g3.mono e, g4⟩) fun v H8 e8 ⟨tc, kt, hv, htc, hkt, ntc⟩ => ?_
    subst hv
    generalize hD : L2.upd H8 a (.ins CW dx (putF "_tables" (.ref tc) [("_facts", .ref fa), ("_steps", .int (n : Int)), ("_places", .ref pc)])) = HD
    have aD : HD a = some (.ins CW dx [("_facts", .ref fa), ("_steps", .int (n : Int)), ("_places", .ref pc), ("_tables", .ref tc)]) := by rw [← hD, upd_same]; rfl
    have bD : ExB a H HD := by rw [← hD]; exact (bC.trans (.of e8)).trans .upd
    have htcD : HD tc = some (.dK kt) := by rw [← hD, upd_ne ntc]; exact htc
    have hktD : TbK HD kt Ts := by rw [← hD]; exact hkt.updI (e8 _ _ aC) (fun _ z => nomatch z)
    have fD := fF' bD
    have tD := tB' bD
    have bl : (signsV pr).length = (bsT Ts pr).length := by simp [signsV, bsT]
    have pl' := signs_len pr
    have sv : (signsV pr).length = pr.length := by simp [signsV, pl']
    have bat : ∀ {i : Nat} {x : V}, (signsV pr)[i]? = some x → ∃ l, x = .str l ∧ l ∈ TS.signs pr ∧ (bsT Ts pr).getD i lt0 = (Txt.upper l, backT (tabT Ts l)) := fun {i x} hx => by
      unfold signsV at hx
      rw [List.getElem?_map] at hx
      obtain ⟨l, hl, rfl⟩ := Option.map_eq_some_iff.mp hx
      refine ⟨l, rfl, List.mem_of_getElem? hl, ?_⟩
      unfold bsT
      rw [List.getD_eq_getElem?_getD, List.getElem?_map, hl]
      rfl
    refine s_fldP (R := fun v H' => ∃ p ks, v = .ref p ∧ H' p = some (.dK ks) ∧ TbK H' ks (bsT Ts pr) ∧ p ≠ a) (fun X e Q1 q1 => dc_run (H := HD) (xs := signsV pr) (fun i => ((bsT Ts pr).getD i lt0).1) (fun i o => o = .lst (nv ((bsT Ts pr).getD i lt0).2)) (ei_str (ev_prop (E := E0) (ev_fld (K := K) (to := tVar 0) (ev_var rfl) aD WC.c WC.n1 rfl) (bD _ _ nF hFa) (sv_paired fD))) (by omega) (fun i j hi hj he => ?_) (fun _ => rfl) (fun i x Y eY hx => ?_) (fun i x Y eY hx Q3 q3 => ?_) X e Q1 fun p ks Y hp eY hY dk => q1 _ Y eY ⟨p, ks, rfl, hY, dk_tb (by rw [← bl]; exact dk), fun z => by rw [z, e _ _ aD] at hp; cases hp⟩) (ev_var rfl) aD WC.c WC.n5 (by simp) (fun v X Y e ⟨p, ks, g1, g2, g3, g4⟩ => ⟨p, ks, g1, e _ _ g2, g3.mono e, g4⟩) fun v H9 e9 ⟨bc, kb, hv, hbc, hkb, nbc⟩ => ?_
    · rw [bl] at hi hj
      have g1 : (bsT Ts pr)[i]? = some (((bsT Ts pr).getD i lt0).1, ((bsT Ts pr).getD i lt0).2) := by rw [List.getD_eq_getElem?_getD, List.getElem?_eq_getElem hi]; rfl
      have g2 : (bsT Ts pr)[j]? = some (((bsT Ts pr).getD j lt0).1, ((bsT Ts pr).getD j lt0).2) := by rw [List.getD_eq_getElem?_getD, List.getElem?_eq_getElem hj]; rfl
      rw [← he] at g2
      exact nd_at ok.bnd g1 g2
    · obtain ⟨l, rfl, hl, gl⟩ := bat hx
      have gl1 : ((bsT Ts pr).getD i lt0).1 = Txt.upper l := by rw [gl]
      show Ev _ _ Y (.str ((bsT Ts pr).getD i lt0).1)
      rw [gl1]
      exact ev_upper (ev_var rfl) (by have := (ok.pd.one hl).len; omega)
    · obtain ⟨l, rfl, hl, gl⟩ := bat hx
      obtain ⟨m, hm⟩ := tab_ex ok.nd (ok.hpr l hl)
      obtain ⟨t, g1, g2⟩ := tD.get ok.nd hm
      have g := (ok.grd hl).1
      refine el_call (vs := [.ref t]) (ea_cons (ev_dget (k := .inr l) (ev_var rfl) (ev_var rfl) (eY _ _ (bD _ _ nB htb)) g1) ea_nil) (sl_back (sq_of (eY _ _ g2)) g) Y (Ex.refl Y) _ fun r Z hr eZ hZ => q3 r _ Z hr eZ hZ ?_
      rw [gl]
    subst hv
    refine k _ ((bD.trans (.of e9)).trans .upd) ⟨dx, fa, pc, tc, bc, kt, kb, by rw [upd_same]; rfl, by rw [upd_ne ntc]; exact e9 _ _ htcD, (hktD.mono e9).updI (e9 _ _ aD) (fun _ z => nomatch z), by rw [upd_ne nbc]; exact hbc, hkb.updI (e9 _ _ aD) (fun _ z => nomatch z)⟩
end
end Z
end
/-! Y13 -/
set_option linter.all false
set_option maxRecDepth 100000
set_option maxHeartbeats 4000000
noncomputable section
namespace Z
open PySem PySem.Spec PyProof.Rows L2 PySem.Froz Evl TS

section
variable {P : Program} {w : World} {K : PySem.W.Frag} {mg : PySem.Str → Option Value} {base : Heap} {f f1 f2 f3 f4 f5 f6 CF CW fD fP pP fI : Addr} {fd fd1 fd2 fd3 fd4 fd5 fd6 fdD fdP : FuncData}
/-! ### World._shown, .table_of, .head_table -/
abbrev s_shown : Stmt := inClass c_world 9
theorem scShown : FnScope ["self", "letter"] ["self", "letter"] (defScope s_shown) := ⟨rfl, rfl, rfl, by decide +kernel, rfl, by decide +kernel, by decide +kernel⟩
def spShown (CW : Addr) : Sp := fun vs H Q _ => ∃ (a : Addr) (n : Nat) (Ts Bs : List LT) (x : PySem.Str) (U : List Nat), vs = [.ref a, .str x] ∧ WAt CW H a n Ts Bs ∧ WD n Ts Bs ∧ Shows Ts Bs x U ∧ ∀ t H2, Ex H H2 → H2 t = some (.lst (nv U)) → Q (.ref t) H2
theorem ok_shown (WC : WCls K mg CW) (D : DatM K "_shown" "World._shown" s_shown ["self", "letter"] f fd) : FnOk P w K mg base (L2.CX P w) 1 f fd ["self", "letter"] (spShown CW) := by
  refine D.F.okX scShown (fun vs H Q E h => ?_) (fun cdv A outer s H vs Q E hr h => ?_)
  · obtain ⟨a, n, Ts, Bs, x, U, rfl, _⟩ := h
    rfl
  · obtain ⟨a, n, Ts, Bs, x, U, rfl, ⟨dx, fa, pl, tb, bk, kt, kb, h1, h2, h3, h4, h5⟩, wd, sh, k⟩ := h
    have hu := hr.units
    have hu1 : (A.deeper (envOfC "World._shown" (defScope s_shown) s.heap.objs.size f cdv)).units + 1 < cLine := by omega
    refine ⟨_, pss_cons (ps_if (pt_cmp (pc_din hu1 (pv 1) (pe_fld (pv 0) rfl))) (pss_one (ps_ret (pe_dget hu1 (pe_fld (pv 0) rfl) (pv 1) (fun _ _ => rfl)))) pss_nil)
      (pss_cons (ps_if (pt_cmp (pc_din hu1 (pv 1) (pe_fld (pv 0) rfl))) (pss_one (ps_ret (pe_dget hu1 (pe_fld (pv 0) rfl) (pv 1) (fun _ _ => rfl)))) pss_nil)
      pss_no), ?_⟩
    rcases sh with ⟨i, hi⟩ | ⟨no, i, hi⟩
    · obtain ⟨t, g1, g2⟩ := h3.get wd.nd1 hi
      refine q_when (b := true) (et_is (et_B (ev_din (k := .inr x) (ev_var rfl) (ev_fld (K := K) (ev_var rfl) h1 WC.c WC.n4 rfl) h2)) (by rw [g1]; rfl)) (fun _ H1 e1 => ?_) fun h => nomatch h
      refine s_ret (ev_dget (k := .inr x) (ev_fld (K := K) (ev_var rfl) (e1 _ _ h1) WC.c WC.n4 rfl) (ev_var rfl) (e1 _ _ h2) g1) fun H2 e2 => k t H2 (e1.trans e2) ((e1.trans e2) _ _ g2)
    · have g0 := h3.none no
      obtain ⟨t, g1, g2⟩ := h5.get wd.nd2 hi
      refine q_when (b := false) (et_is (et_B (ev_din (k := .inr x) (ev_var rfl) (ev_fld (K := K) (ev_var rfl) h1 WC.c WC.n4 rfl) h2)) (by rw [g0]; rfl)) (fun h => nomatch h) fun _ H1 e1 => ?_
      refine q_when (b := true) (et_is (et_B (ev_din (k := .inr x) (ev_var rfl) (ev_fld (K := K) (ev_var rfl) (e1 _ _ h1) WC.c WC.n5 rfl) (e1 _ _ h4))) (by rw [g1]; rfl)) (fun _ H2 e2 => ?_) fun h => nomatch h
      have e12 := e1.trans e2
      refine s_ret (ev_dget (k := .inr x) (ev_fld (K := K) (ev_var rfl) (e12 _ _ h1) WC.c WC.n5 rfl) (ev_var rfl) (e12 _ _ h4) g1) fun H3 e3 => k t H3 (e12.trans e3) ((e12.trans e3) _ _ g2)
abbrev s_table_of : Stmt := inClass c_world 8
theorem scTO : FnScope ["self", "letter"] ["self", "letter"] (defScope s_table_of) := ⟨rfl, rfl, rfl, by decide +kernel, rfl, by decide +kernel, by decide +kernel⟩
def spTO (CW : Addr) : Sp := fun vs H Q _ => ∃ (a : Addr) (n : Nat) (Ts Bs : List LT) (x : PySem.Str) (U : List Nat), vs = [.ref a, .str x] ∧ WAt CW H a n Ts Bs ∧ WD n Ts Bs ∧ Shows Ts Bs x U ∧ RetL (nv U) H Q
theorem Shows.ne1 {n : Nat} {Ts Bs : List LT} {x : PySem.Str} {U : List Nat} (wd : WD n Ts Bs) (sh : Shows Ts Bs x U) : x ≠ "1" := by
  rcases sh with ⟨i, hi⟩ | ⟨_, i, hi⟩
  · exact wd.ne1 _ (List.mem_of_getElem? hi)
  · exact wd.ne2 _ (List.mem_of_getElem? hi)
theorem Shows.tb {n : Nat} {Ts Bs : List LT} {x : PySem.Str} {U : List Nat} (wd : WD n Ts Bs) (sh : Shows Ts Bs x U) : Tb n U := by
  rcases sh with ⟨i, hi⟩ | ⟨_, i, hi⟩
  · exact wd.tb1 _ (List.mem_of_getElem? hi)
  · exact wd.tb2 _ (List.mem_of_getElem? hi)
theorem ok_table_of (W : Wd mg) (WC : WCls K mg CW) (MS : Meth K CW "_shown" f1) (D : DatM K "table_of" "World.table_of" s_table_of ["self", "letter"] f fd) (D1 : DatM K "_shown" "World._shown" s_shown ["self", "letter"] f1 fd1) (G1 : FnOk P w K mg base (L2.CX P w) 1 f1 fd1 ["self", "letter"] (spShown CW)) :
    FnOk P w K mg base (L2.CX P w) 2 f fd ["self", "letter"] (spTO CW) := by
  refine D.F.okX scTO (fun vs H Q E h => ?_) (fun cdv A outer s H vs Q E hr h => ?_)
  · obtain ⟨a, n, Ts, Bs, x, U, rfl, _⟩ := h
    rfl
  · obtain ⟨a, n, Ts, Bs, x, U, rfl, hW, wd, sh, k⟩ := h
    refine ⟨_, pss_cons (ps_if (pt_cmpR op_eq (pv 1) pe_str (nomark _)) pss_no pss_nil)
      (pss_one (ps_ret (pe_callTy call_list_of rfl W.list PyProof.Rows.boot_list (pa_cons (pe_meth (pv 0) WC.c MS G1 hr D1.b .nil (pas0 (X := cxOf (L2.CX P w) P w K mg base ["self", "letter"] "World.table_of" (defScope s_table_of) f cdv A outer s H E)) (pa_cons (pv 1) pa_nil)) pa_nil)))), ?_⟩
    refine q_when (b := false) (et_is (et_test (ev_op (ev_var rfl) ev_c (rv_eq rfl))) (by rw [str_eq]; exact decide_eq_false (sh.ne1 wd))) (fun h => nomatch h) fun _ H1 e1 => ?_
    obtain ⟨dx, fa, pl, tb, bk, kt, kb, h1, hrest⟩ := hW
    refine s_retL (el_listP (K := K) (evp_meth (ev_var rfl) (e1 _ _ h1) rfl (ea_cons (ev_var rfl) ea_nil) fun H2 e2 Q2 q2 E2 => ⟨a, n, Ts, Bs, x, U, rfl, WAt.mono (e1.trans e2) ⟨dx, fa, pl, tb, bk, kt, kb, h1, hrest⟩, wd, sh, fun t H3 e3 h3 => q2 _ H3 e3 ⟨t, rfl, h3⟩⟩)) fun p H2 hp e2 h2 => k.go e1 hp e2 h2
abbrev s_headT : Stmt := inClass c_world 10
abbrev nHT : List PySem.Str := ["self", "head", "table", "letter", "outer", "shown"]
theorem scHT : FnScope nHT ["self", "head"] (defScope s_headT) := ⟨rfl, rfl, rfl, by decide +kernel, rfl, by decide +kernel, by decide +kernel⟩
def spHT (CW : Addr) : Sp := fun vs H Q _ => ∃ (a : Addr) (n : Nat) (Ts Bs : List LT) (x : PySem.Str) (Us : List (List Nat)), vs = [.ref a, .str x] ∧ WAt CW H a n Ts Bs ∧ WD n Ts Bs ∧ x.length ≤ 1000 ∧ Us.length = (TS.signs x).length ∧ (∀ (i : Nat) c U, (TS.signs x)[i]? = some c → Us[i]? = some U → Shows Ts Bs c U) ∧ RetL (nv (headT n Us)) H Q
theorem ok_headT (W : Wd mg) (WC : WCls K mg CW) (MT : Meth K CW "table_of" f1) (D : DatM K "head_table" "World.head_table" s_headT ["self", "head"] f fd) (D1 : DatM K "table_of" "World.table_of" s_table_of ["self", "letter"] f1 fd1) (G1 : FnOk P w K mg base (L2.CX P w) 2 f1 fd1 ["self", "letter"] (spTO CW))
    (D2 : Dat K mg "still_table" s_still ["steps"] f2 fd2) (G2 : FnOk P w K mg base (L2.CX P w) 1 f2 fd2 ["steps"] spStill) : FnOk P w K mg base (L2.CX P w) 3 f fd ["self", "head"] (spHT CW) := by
  refine D.F.okX scHT (fun vs H Q E h => ?_) (fun cdv A outer s H vs Q E hr h => ?_)
  · obtain ⟨a, n, Ts, Bs, x, Us, rfl, _⟩ := h
    rfl
  · obtain ⟨a, n, Ts, Bs, x, Us, rfl, hW, wd, hz, hn, hs, k⟩ := h
    refine ⟨_, pss_cons (ps_set (i := 2) scHT.nd rfl (Or.inl rfl) (pe_call G2 (hr.mono (by decide)) rfl D2.g D2.k D2.b .nil pas0 (pa_cons (pe_fld (pv 0) rfl) pa_nil)))
      (pss_cons (ps_for (passes_of rfl) rfl (pi_revS rfl W.rev (pv 1)) (pg_name (i := 3) scHT.nd rfl (Or.inl rfl))
        (pss_cons (ps_set (i := 4) scHT.nd rfl (Or.inr rfl) (pe_meth (pv 0) WC.c MT G1 hr D1.b .nil (pas0 (X := cxOf (L2.CX P w) P w K mg base nHT "World.head_table" (defScope s_headT) f cdv A outer s H E)) (pa_cons (pv 3) pa_nil)))
        (pss_one (ps_setLc (i := 2) (own := [("shown", 5)]) (g := gName 5) (te := tOp (rIxL K) (tVar 4) (tVar 5)) rfl scHT.nd rfl rfl (sw_true rfl rfl rfl (by decide +kernel)) (pi_list (pv 2)) (blkOk_by (N := nHT) (sc := defScope s_headT) (by decide +kernel))
          (fun _ _ _ _ _ => pg_name (i := 5) scHT.nd rfl (Or.inl rfl)) (fun _ _ _ _ _ => pts_nil) (fun _ _ _ _ _ => pe_ix ix_list (pv 4) (pv 5) (fun _ _ => rfl))))))
      (pss_one (ps_ret (pv 2)))), ?_⟩
    have hW0 := hW
    obtain ⟨dx, fa, pl, tb, bk, kt, kb, h1, hrest⟩ := hW0
    have hlen := wd.n0
    have tbU : ∀ U ∈ Us, Tb n U := fun U hU => by
      obtain ⟨i, hi, rfl⟩ := List.getElem_of_mem hU
      have hi2 : i < (TS.signs x).length := by omega
      exact (hs i _ _ (List.getElem?_eq_getElem hi2) (List.getElem?_eq_getElem hi)).tb wd
    refine q_asgL (el_call (ea_cons (ev_fld (K := K) (ev_var rfl) h1 WC.c WC.n2 rfl) ea_nil) (sl_still (by omega))) fun p H1 hp e1 hp1 => ?_
    have hsl : (signsV x).length = Us.length := by rw [hn]; simp [signsV]
    refine q_forI (H := H1) (ei_revS (ev_var rfl) (by omega)) (Ex.refl H1) (fun _ i σ' H' => (∃ p v1 v2, σ' = [some (.ref a), some (.str x), some (.ref p), v1, v2, none] ∧ H' p = some (.lst (nv ((Us.reverse.take i).foldl (fun acc U => compT U acc) (List.range n)))) ∧ (H p = none)) ∧ Ex H1 H') (fun _ H2 _ e2 _ => ⟨⟨p, none, none, rfl, e2 _ _ hp1, hp⟩, e2⟩) ?_ ?_
    · rintro G i y σ' H' eG eG' hy ⟨⟨p, v1, v2, rfl, hp2, hpn⟩, e⟩
      have hi : i < Us.length := by
        have := (List.getElem?_eq_some_iff.mp hy).1
        rw [List.length_reverse, hsl] at this; exact this
      have hj : Us.length - 1 - i < Us.length := by omega
      have hj2 : Us.length - 1 - i < (TS.signs x).length := by omega
      obtain ⟨c, hc⟩ : ∃ c, (TS.signs x)[Us.length - 1 - i]? = some c := ⟨_, List.getElem?_eq_getElem hj2⟩
      obtain ⟨U, hU⟩ : ∃ U, Us[Us.length - 1 - i]? = some U := ⟨_, List.getElem?_eq_getElem hj⟩
      have hyc : y = .str c := by
        rw [List.getElem?_reverse (by omega), hsl] at hy
        unfold signsV at hy
        rw [List.getElem?_map, hc] at hy
        exact (Option.some.inj hy).symm
      subst hyc
      have hrev : Us.reverse[i]? = some U := by rw [List.getElem?_reverse hi]; exact hU
      have sh := hs _ _ _ hc hU
      have hUm := List.mem_of_getElem? hU
      have e01 := e1.trans e
      refine q_asgL (el_meth (ev_var rfl) (e01 _ _ h1) rfl (ea_cons (ev_var rfl) ea_nil) fun H2 e2 Q2 q2 E2 => ⟨a, n, Ts, Bs, c, U, rfl, hW.mono (e01.trans e2), wd, sh, fun q H3 hq e3 h3 => q2 q H3 hq e3 h3⟩) fun q H2 hq e2 h2 => ?_
      have tbA : Tb n ((Us.reverse.take i).foldl (fun acc U => compT U acc) (List.range n)) := tb_fold (fun V hV => tbU V (List.mem_reverse.mp (List.mem_of_mem_take hV))) (.range _)
      refine s_asgL (el_put (P := P) (w := w) (K := K) (o := U) (i := (Us.reverse.take i).foldl (fun acc U => compT U acc) (List.range n)) (a := q) (b := p) (ev_var rfl) (fun _ _ _ => ev_var rfl) (sq_of h2) (sq_of (e2 _ _ hp2)) (by rw [tbA.len]; omega) (fun k hk => by rw [(tbU U hUm).len]; exact tbA.lt k hk) (fun _ => rfl) fun _ => rfl) fun r H3 hr3 e3 h3 => ?_
      refine ⟨(eG'.trans e2).trans e3, ⟨r, _, _, rfl, ?_, fresh_back (e01.trans e2) hr3⟩, (e.trans e2).trans e3⟩
      rw [h3, List.take_add_one, hrev, List.foldl_append]
      rfl
    · rintro G σ' H' eG eG' ⟨⟨p, v1, v2, rfl, hp2, hpn⟩, e⟩
      refine s_ret (ev_var rfl) fun H2 e2 => k p H2 hpn ((e1.trans e).trans e2) ?_
      rw [e2 _ _ hp2]
      have : ((signsV x).reverse).length = Us.reverse.length := by rw [List.length_reverse, List.length_reverse, hsl]
      rw [this, List.take_length]
      unfold headT
      rw [List.foldr_eq_foldl_reverse]
end
/-! ### heads of shown letters -/
theorem signs_app (x y : PySem.Str) : TS.signs (x ++ y) = TS.signs x ++ TS.signs y := by
  obtain ⟨a⟩ := x
  obtain ⟨b⟩ := y
  show TS.signs ⟨a ++ b⟩ = _
  simp [TS.signs]
theorem signs_one {x : PySem.Str} (h : x.length = 1) : TS.signs x = [x] := by
  obtain ⟨c, rfl⟩ := one_sign h
  rfl
theorem len_app (x y : PySem.Str) : (x ++ y).length = x.length + y.length := by
  obtain ⟨a⟩ := x
  obtain ⟨b⟩ := y
  show (a ++ b).size = a.size + b.size
  simp
structure Head (Ts Bs : List LT) (x : PySem.Str) (Us : List (List Nat)) : Prop where
  len : x.length ≤ 1000
  n : Us.length = (TS.signs x).length
  at_ : ∀ (i : Nat) c U, (TS.signs x)[i]? = some c → Us[i]? = some U → Shows Ts Bs c U
theorem Head.one {Ts Bs : List LT} {x : PySem.Str} {U : List Nat} (h : x.length = 1) (s : Shows Ts Bs x U) : Head Ts Bs x [U] := by
  refine ⟨by omega, by rw [signs_one h]; rfl, fun i c V hc hV => ?_⟩
  rw [signs_one h] at hc
  match i, hc, hV with
  | 0, hc, hV =>
    have e1 : x = c := by simpa using hc
    have e2 : U = V := by simpa using hV
    rw [← e1, ← e2]; exact s
theorem Head.app {Ts Bs : List LT} {x y : PySem.Str} {Us Vs : List (List Nat)} (h : Head Ts Bs x Us) (h' : Head Ts Bs y Vs) (hz : x.length + y.length ≤ 1000) : Head Ts Bs (x ++ y) (Us ++ Vs) := by
  refine ⟨by rw [len_app]; exact hz, by rw [signs_app, List.length_append, List.length_append, h.n, h'.n], fun i c V hc hV => ?_⟩
  rw [signs_app] at hc
  by_cases hi : i < Us.length
  · rw [List.getElem?_append_left (by rw [← h.n]; exact hi)] at hc
    rw [List.getElem?_append_left hi] at hV
    exact h.at_ i c V hc hV
  · rw [List.getElem?_append_right (by rw [← h.n]; omega), ← h.n] at hc
    rw [List.getElem?_append_right (by omega)] at hV
    exact h'.at_ _ c V hc hV
theorem sl_HT {CW : Addr} {a : Addr} {n : Nat} {Ts Bs : List LT} {x : PySem.Str} {Us : List (List Nat)} {H : Hp} (hW : WAt CW H a n Ts Bs) (wd : WD n Ts Bs) (h : Head Ts Bs x Us) : SpL (spHT CW) [.ref a, .str x] H (nv (headT n Us)) := fun H1 e Q q E => ⟨a, n, Ts, Bs, x, Us, rfl, hW.mono e, wd, h.len, h.n, h.at_, fun p H2 hp e2 h2 => q p H2 hp e2 h2⟩
theorem sl_TO {CW : Addr} {a : Addr} {n : Nat} {Ts Bs : List LT} {x : PySem.Str} {U : List Nat} {H : Hp} (hW : WAt CW H a n Ts Bs) (wd : WD n Ts Bs) (s : Shows Ts Bs x U) : SpL (spTO CW) [.ref a, .str x] H (nv U) := fun H1 e Q q E => ⟨a, n, Ts, Bs, x, U, rfl, hW.mono e, wd, s, fun p H2 hp e2 h2 => q p H2 hp e2 h2⟩
theorem el_wmeth {CW : Addr} {σ : L2.St} {te tx : TE} {E : XK} {H : Hp} {a : Addr} {n : Nat} {Ts Bs : List LT} {m : PySem.Str} {sp : Sp} {x : PySem.Str} {xs : List V} (h : Ev te σ H (.ref a)) (hW : WAt CW H a n Ts Bs) (hm : ∀ fa pl tb bk, (fW fa n pl tb bk).lookup m = none) (hx : Ev tx σ H (.str x)) (hs : SpL sp [.ref a, .str x] H xs) : EvL (tMeth CW m sp [] E te (tCons tx tNil)) σ H xs := by
  obtain ⟨dx, fa, pl, tb, bk, kt, kb, h1, _⟩ := hW
  exact el_meth h h1 (hm _ _ _ _) (ea_cons hx ea_nil) hs
end Z
end
/-! Y14 -/
set_option linter.all false
set_option maxRecDepth 100000
set_option maxHeartbeats 4000000
noncomputable section
namespace Z
open PySem PySem.Spec PyProof.Rows L2 PySem.Froz Evl TS GenW

/-! ### own errors -/
structure XCls (K : PySem.W.Frag) (mg : PySem.Str → Option Value) (n q : String) (st : Stmt) (fns : List PySem.Str) (C fI : Addr) (fd : FuncData) : Prop where
  x : XC K C
  g : mg n = some (.ref C)
  i : PySem.W.findIn K (.ref C) "__init__" = some (some (.ref fI))
  t : PySem.W.typeIn K (.ref fI) = some (.type "function")
  F : Fun K "__init__" q st fI fd
  b : Binds K fd ("self" :: fns) []
  no : ∀ f ∈ fns, PySem.W.findIn K (.ref C) f = some none
/-- self.f = f -/
theorem read1 {K : PySem.W.Frag} {C : Addr} {f : PySem.Str} {vs : List V} {H : Hp} {Q : VK} {E : XK} (T : OexC K C) (n1 : PySem.W.findIn K (.ref C) f = some none) (h : spInit C [f] vs H Q E) :
    tOst K f (tVar 0) (tVar 1) { nx := fun _ H' => Q .non H', rt := Q } (start ["self", f] vs) H := by
  obtain ⟨a, ys, rfl, hl, ha, _, k⟩ := h
  match ys, hl with
  | [y], _ => exact ⟨y, rfl, .ref a, rfl, a, C, rfl, T, n1, .inl ⟨ha, fun dx hd hne => k dx _ hd hne (fun b o hb hz => by rw [upd_ne hb, upd_ne (ne_of_none hz hd)]; exact hz) upd_same (by rw [upd_ne hne]; exact upd_same)⟩⟩
abbrev c_BadSteps : Stmt := inClass (top 7) 0
abbrev c_NotG : Stmt := inClass (top 11) 0
abbrev XSteps (K : PySem.W.Frag) (mg : PySem.Str → Option Value) (C fI : Addr) (fd : FuncData) : Prop := XCls K mg "BadSteps" "BadSteps.__init__" c_BadSteps ["many"] C fI fd
abbrev XNotG (K : PySem.W.Frag) (mg : PySem.Str → Option Value) (C fI : Addr) (fd : FuncData) : Prop := XCls K mg "NotGrounded" "NotGrounded.__init__" c_NotG ["dial"] C fI fd
section
variable {P : Program} {w : World} {K : PySem.W.Frag} {mg : PySem.Str → Option Value} {base : Heap} {f f1 f2 CS CG fI : Addr} {fd fd1 fd2 fdI : FuncData}
theorem init_len {C : Addr} {fns : List PySem.Str} {vs : List V} {H : Hp} {Q : VK} {E : XK} (h : spInit C fns vs H Q E) : vs.length = ("self" :: fns : List PySem.Str).length := by
  obtain ⟨a, ys, rfl, hl, _⟩ := h
  rw [List.length_cons, List.length_cons, hl]
theorem scBadSteps : FnScope ["self", "many"] ["self", "many"] (defScope c_BadSteps) := ⟨rfl, rfl, rfl, by decide +kernel, rfl, by decide +kernel, by decide +kernel⟩
theorem ok_BadSteps {C : Addr} (T : XSteps K mg C fI fd) : FnOk P w K mg base (L2.CX P w) 1 fI fd ["self", "many"] (spInit C ["many"]) :=
  T.F.okX scBadSteps (fun vs H Q E h => init_len h) fun cdv A outer s H vs Q E hr h => ⟨_, pss_one (ps_ost (pv 0) (pv 1)), read1 T.x.oex (T.no _ (by simp)) h⟩
theorem scNotG : FnScope ["self", "dial"] ["self", "dial"] (defScope c_NotG) := ⟨rfl, rfl, rfl, by decide +kernel, rfl, by decide +kernel, by decide +kernel⟩
theorem ok_NotG {C : Addr} (T : XNotG K mg C fI fd) : FnOk P w K mg base (L2.CX P w) 1 fI fd ["self", "dial"] (spInit C ["dial"]) :=
  T.F.okX scNotG (fun vs H Q E h => init_len h) fun cdv A outer s H vs Q E hr h => ⟨_, pss_one (ps_ost (pv 0) (pv 1)), read1 T.x.oex (T.no _ (by simp)) h⟩
/-! ### check_steps, whatever it gets -/
def spStepsB (C : Addr) : Sp := fun vs H Q E => ∃ m M : Int, vs = [.int m, .int M] ∧ (1 ≤ m ∧ m ≤ M → RetV .non H Q) ∧ (¬ (1 ≤ m ∧ m ≤ M) → RaiseF C [("many", .int m)] H E)
theorem ok_check_stepsB (T : XSteps K mg CS fI fdI) (D : Dat K mg "check_steps" s_check_steps ["many", "most"] f fd) : FnOk P w K mg base (L2.CX P w) 3 f fd ["many", "most"] (spStepsB CS) := by
  have GI : FnOk P w K mg base (L2.CX P w) 1 fI fdI ["self", "many"] (spInit CS ["many"]) := ok_BadSteps T
  refine D.F.okX scSteps (fun vs H Q E h => ?_) (fun cdv A outer s H vs Q E hr h => ?_)
  · obtain ⟨m, M, rfl, _⟩ := h
    rfl
  · obtain ⟨m, M, rfl, k1, k2⟩ := h
    refine ⟨_, pss_one (ps_if (pt_not (pt_chain op_le op_le pe_int (pv 0) (pv 1))) (pss_one (ps_raise rfl (takes_of rfl rfl rfl rfl) (pmk_oex T.x.oex T.i T.t GI hr T.b .nil pas0 rfl T.g (pa_cons (pv 0) pa_nil)))) pss_nil), ?_⟩
    refine s_when (b := !(decide (1 ≤ m) && decide (m ≤ M))) (et_is (et_not (et_test (ev_chain2 (g := fun i j => decide (i ≤ j)) (g' := fun i j => decide (i ≤ j)) ev_c (ev_var rfl) (ev_var rfl)))) rfl) (fun hb H1 e => ?_) fun hb H1 e => ?_
    · exact mko_raise (ys := [.int m]) (ea_cons (ev_var rfl) ea_nil) rfl (by show 1 ≤ 1000; decide) (by simp) (Ex.refl H1) ((k2 (by simp at hb; omega)).go e)
    · exact k1 (by simp at hb; omega) H1 e
/-! ### threshold of any number -/
def spThrI (K : PySem.W.Frag) : Sp := fun vs H Q _ => ∃ (a : Addr) (ns : List Nat) (m : Int), vs = [.ref a, .int m] ∧ SqL K H a (nv ns) ∧ ns.length ≤ 1000 ∧ RetV (.int (thr ns m.toNat : Nat)) H Q
theorem ok_thrI (W : Wd mg) (D : Dat K mg "threshold" s_thr ["table", "least"] f fd) : FnOk P w K mg base (L2.CX P w) 1 f fd ["table", "least"] (spThrI K) := by
  refine D.F.okX scThr (fun vs H Q E h => ?_) (fun cdv A outer s H vs Q E hr h => ?_)
  · obtain ⟨a, ns, m, rfl, _⟩ := h
    rfl
  · obtain ⟨a, ns, m, rfl, ha, hz, k⟩ := h
    refine ⟨_, pss_cons (ps_for (passes_of rfl) rfl (pi_enum rfl W.enum (pa_cons (pv 0) pa_nil)) (pg_tup rfl (pgs_cons (pg_name (i := 2) scThr.nd rfl (Or.inl rfl)) (pgs_cons (pg_name (i := 3) scThr.nd rfl (Or.inl rfl)) pgs_nil)))
        (pss_one (ps_if (pt_cmpR op_ge (pv 3) (pv 1) (nomark _)) (pss_one (ps_ret (pv 2))) pss_nil)))
      (pss_one (ps_ret (pe_callB call_len_seq (by rfl) W.len PySem.boot_len (pa_cons (pv 0) pa_nil)))), ?_⟩
    refine s_enum (i := 2) (j := 3) (H := H) (K := K) (D := { (_ : Ends) with nx := _ }) (ea_cons (ev_var rfl) ea_nil) ha (Ex.refl H) (fun i σ' => (∃ u v, σ' = [some (.ref a), some (.int m), u, v]) ∧ ∀ j, j < i → ns.getD j 0 < m.toNat) ⟨⟨_, _, rfl⟩, fun j hj => absurd hj (Nat.not_lt_zero j)⟩ ?_ ?_
    · rintro i x σ' H' e hx ⟨⟨u, v, rfl⟩, g⟩
      obtain ⟨hi, rfl⟩ := nv_get hx
      refine s_when (ev_ltI (g := fun i j => decide (i ≥ j)) (ev_var rfl) (ev_var rfl)) (fun hb H2 e2 => ?_) fun hb H2 e2 => ?_
      · have hge : m.toNat ≤ ns.getD i 0 := by have := of_decide_eq_true hb; omega
        refine s_ret (ev_var rfl) fun H3 e3 => ?_
        rw [← thr_at hi g hge]
        exact k H3 ((e.trans e2).trans e3)
      · have hlt : ns.getD i 0 < m.toNat := by have := of_decide_eq_false hb; omega
        exact ⟨e.trans e2, ⟨_, _, rfl⟩, fun j hj => (Nat.lt_succ_iff_lt_or_eq.mp hj).elim (g j) fun z => z ▸ hlt⟩
    · rintro σ' H' e ⟨⟨u, v, rfl⟩, g⟩
      rw [List.length_map] at g
      refine s_ret (ev_lenN' (ns := ns) (ev_var rfl) (ex_l e ha)) fun H3 e3 => ?_
      rw [← thr_end g]
      exact k H3 (e.trans e3)
/-! ### back_table, grounded or not -/
def spBackB (K : PySem.W.Frag) (C : Addr) : Sp := fun vs H Q E => ∃ (a : Addr) (ns : List Nat), vs = [.ref a] ∧ SqL K H a (nv ns) ∧ ns.length ≤ 1000 ∧ 0 < ns.length ∧ (ns.getD 0 0 = 0 → RetL (nv (backT ns)) H Q) ∧ (ns.getD 0 0 ≠ 0 → RaiseF C [("dial", .str "")] H E)
theorem ok_backB (W : Wd mg) (T : XNotG K mg CG fI fdI) (D : Dat K mg "back_table" s_back ["table"] f fd) (D1 : Dat K mg "threshold" s_thr ["table", "least"] f1 fd1) (G1 : FnOk P w K mg base (L2.CX P w) 1 f1 fd1 ["table", "least"] (spThr K)) : FnOk P w K mg base (L2.CX P w) 3 f fd ["table"] (spBackB K CG) := by
  have GI : FnOk P w K mg base (L2.CX P w) 1 fI fdI ["self", "dial"] (spInit CG ["dial"]) := ok_NotG T
  refine D.F.okX scBack (fun vs H Q E h => ?_) (fun cdv A outer s H vs Q E hr h => ?_)
  · obtain ⟨a, ns, rfl, _⟩ := h
    rfl
  · obtain ⟨a, ns, rfl, ha, hz, h0, k1, k2⟩ := h
    have hr1 : Room 1 _ := hr.mono (by decide)
    refine ⟨_, pss_cons (ps_if (pt_cmpR op_ne (pe_ix ix_list (pv 0) pe_int (fun _ _ => rfl)) pe_int (nomark _)) (pss_one (ps_raise rfl (takes_of rfl rfl rfl rfl) (pmk_oex T.x.oex T.i T.t GI hr T.b .nil pas0 rfl T.g (pa_cons pe_str pa_nil)))) pss_nil)
      (pss_one (ps_ret (pe_l1 (own := [("at", 1)]) (g := gName 1) (te := tOp (rI0 fun i j => .int (i - j)) (tCall (spThr K) [] E0 (tCons (tVar 0) (tCons (tOp (rI0 fun i j => .int (i + j)) (tVar 1) (tC (.int 1))) tNil))) (tC (.int 1))) rfl scBack.nd (pi_range1 rfl W.range (pa_cons (pe_callB call_len_seq (by rfl) W.len PySem.boot_len (pa_cons (pv 0) pa_nil)) pa_nil)) (blkOk_by (N := ["table", "at"]) (sc := defScope s_back) (by decide +kernel))
        (fun _ _ _ _ _ => pg_name (i := 1) scBack.nd rfl (Or.inl rfl)) (fun _ _ _ _ _ => pts_nil) (fun _ _ _ _ _ => pe_op op_sub (pe_call G1 hr1 rfl D1.g D1.k D1.b .nil pas0 (pa_cons (pv 0) (pa_cons (pe_op op_add (pv 1) pe_int) pa_nil))) pe_int)))), ?_⟩
    refine q_when (b := decide (ns.getD 0 0 ≠ 0)) (et_is (ev_neI (ev_atN (ns := ns) (k := 0) (ev_var rfl) ev_c ha h0) ev_c) (by rw [decide_not]; congr 1; exact decide_eq_decide.mpr (by omega))) (fun hb H1 e => ?_) fun hb H1 e => ?_
    · exact mko_raise (ys := [.str ""]) (ea_cons ev_c ea_nil) rfl (by show 1 ≤ 1000; decide) (by simp) (Ex.refl H1) ((k2 (of_decide_eq_true hb)).go e)
    have hg : ns.getD 0 0 = 0 := by have := of_decide_eq_false hb; omega
    have ha1 := ex_l e ha
    refine s_retL (xs := nv (backT ns)) ?_ fun p H2 hp e2 h2 => (k1 hg).go e hp e2 h2
    refine (ek_kc .lst (nv (backT ns)) (ei_rng1 (ea_lenL (n := (ns.length : Int)) (ev_var rfl) ha1 (by simp)) (by omega) (by omega)) (by simp [backT, nums]) (by rw [nums_len]; omega) (fun _ _ => trivial) (fun _ => rfl) fun i z y H3 e3 hz1 hy => ?_).lst
    obtain ⟨hi, rfl⟩ := nums_at hz1
    obtain ⟨hi2, rfl⟩ := nv_get hy
    have hin : i < ns.length := by omega
    refine ev_is (ev_op (ev_call (z := .int (thr ns (i + 1) : Nat)) (vs := [.ref a, .int ((i + 1 : Nat) : Int)]) (ea_cons (ev_var rfl) (ea_cons (ev_is (ev_op (ev_var rfl) ev_c rv_I0) (by simp)) ea_nil)) (sv_thr (ex_l e3 ha1) hz)) ev_c rv_I0) ?_
    have hp := thr_pos (c := i) h0 hg
    have eb : (backT ns).getD i 0 = thr ns (i + 1) - 1 := by simp [backT, List.getD_eq_getElem?_getD, hin]
    rw [eb]
    congr 1
    omega
/-! ### lesser_table, greater_table -/
def lowT (o p : List Nat) : List Nat := List.zipWith min o p
def highT (o p : List Nat) : List Nat := List.zipWith max o p
theorem zip_at {g : Nat → Nat → Nat} {o p : List Nat} {i : Nat} (h1 : i < o.length) (h2 : i < p.length) : (List.zipWith g o p).getD i 0 = g (o.getD i 0) (p.getD i 0) := by
  simp [List.getD_eq_getElem?_getD, List.getElem?_zipWith, List.getElem?_eq_getElem h1, List.getElem?_eq_getElem h2]
/-- one clause over zip -/
theorem ek_zip {σ : L2.St} {H : Hp} {ta : TA} {te : TE} {a b : Addr} {xs zs : List V} {i j : Nat} {vs : List Nat} (kd : Kd) (ys : List V) (h : EvA ta σ H [.ref a, .ref b]) (hx : SqL K H a xs) (hz : SqL K H b zs) (hl : ys.length = xs.length) (hl2 : zs.length = xs.length) (hm : xs.length ≤ 3000) (hf : ∀ y ∈ ys, kd.fits y)
    (hw : ∀ x z, wipe (((wipe σ vs).set i (some x)).set j (some z)) vs = wipe σ vs)
    (he : ∀ (k : Nat) (x z y : V) H1, Ex H H1 → xs[k]? = some x → zs[k]? = some z → ys[k]? = some y → Ev te (((wipe σ vs).set i (some x)).set j (some z)) H1 y) : EvK P w kd (tKc P w kd (iZip K ta) (gTup K 2 (gCons (gName i) (gCons (gName j) gNil))) tYes te vs) σ H ys := fun H0 e Q q => h H0 e _ fun H1 e1 => by
  have e01 := e.trans e1
  refine ⟨a, b, xs, zs, rfl, ex_l e01 hx, ex_l e01 hz, fun D hD => ?_⟩
  refine ⟨fun k m H' => k ≤ xs.length ∧ m = xs.length - k ∧ Ex H1 H' ∧ H' D = some (kd.val P w D (ys.take k)), ⟨xs.length, Nat.zero_le _, by simp, Ex.new hD, ?_⟩, ?_⟩
  · rw [List.take_zero, kd.val0]; exact upd_same
  rintro k m H' ⟨hk, rfl, eH, hDv⟩
  have lx : SqL K H' a xs := ex_l (e01.trans eH) hx
  have lz : SqL K H' b zs := ex_l (e01.trans eH) hz
  rcases Nat.lt_or_ge k xs.length with hlt | hge
  · have hx1 : xs[k]? = some xs[k] := List.getElem?_eq_getElem hlt
    have hlz : k < zs.length := by omega
    have hz1 : zs[k]? = some zs[k] := List.getElem?_eq_getElem hlz
    have hly : k < ys.length := by omega
    have hy1 : ys[k]? = some ys[k] := List.getElem?_eq_getElem hly
    refine .inr ⟨⟨xs, zs, _, _, lx, lz, hx1, hz1⟩, fun H3 => Ex H1 H3 ∧ H3 D = some (kd.val P w D (ys.take (k + 1))), fun H3 p => ⟨xs.length - (k + 1), by omega, hlt, rfl, p⟩, fun y H3 hy => ?_⟩
    obtain ⟨T, x, z, rfl, hT, rfl, h1, h2⟩ := hy
    obtain rfl : xs[k] = x := Option.some.inj (hx1.symm.trans (h1 xs lx))
    obtain rfl : zs[k] = z := Option.some.inj (hz1.symm.trans (h2 zs lz))
    have new : Ex H' (upd H' T (.tup [xs[k], zs[k]])) := Ex.new hT
    refine ⟨T, _, rfl, st_of upd_same, rfl, _, _, rfl, _, _, rfl, rfl, hw _ _, ?_⟩
    refine he k _ _ _ _ ((e01.trans eH).trans new) hx1 hz1 hy1 _ (Ex.refl _) _ fun H4 e4 => kd.add_of (e4 D _ (new D _ hDv)) (by have := take_len ys k; omega) (hf _ (List.getElem_mem hly)) ⟨Ex.mut ((eH.trans new).trans e4) hD, ?_⟩
    rw [upd_same, take_one hy1]
  · have z : k = xs.length := by omega
    subst z
    refine .inl ⟨⟨xs, zs, lx, lz, .inl (Nat.le_refl _)⟩, q D H' (fresh_back e1 hD) (e1.trans eH) ?_⟩
    rw [hDv, ← hl, List.take_length]
abbrev s_lesser : Stmt := top 37
abbrev s_greater : Stmt := top 38
def spTwo (K : PySem.W.Frag) (g : List Nat → List Nat → List Nat) : Sp := fun vs H Q _ => ∃ (a b : Addr) (o p : List Nat), vs = [.ref a, .ref b] ∧ SqL K H a (nv o) ∧ SqL K H b (nv p) ∧ o.length = p.length ∧ o.length ≤ 1000 ∧ RetL (nv (g o p)) H Q
abbrev nTwo : List PySem.Str := ["one", "other", "low", "high"]
theorem scLesser : FnScope nTwo ["one", "other"] (defScope s_lesser) := ⟨rfl, rfl, rfl, by decide +kernel, rfl, by decide +kernel, by decide +kernel⟩
theorem scGreater : FnScope nTwo ["one", "other"] (defScope s_greater) := ⟨rfl, rfl, rfl, by decide +kernel, rfl, by decide +kernel, by decide +kernel⟩
abbrev rMin2 : List V → Hp → VK → Prop := fun xs H Q => ∃ i j, xs = [V.int i, .int j] ∧ Q (.int (if j < i then j else i)) H
abbrev rMax2 : List V → Hp → VK → Prop := fun xs H Q => ∃ i j, xs = [V.int i, .int j] ∧ Q (.int (if j > i then j else i)) H
theorem ev_min2 {σ : L2.St} {H : Hp} {ta tb : TE} {i j : Nat} (ha : Ev ta σ H (.int i)) (hb : Ev tb σ H (.int j)) : Ev (tCB rMin2 (tCons ta (tCons tb tNil))) σ H (.int ((min i j : Nat) : Int)) := fun H1 e Q q =>
  ha H1 e _ fun H2 e2 => hb H2 (e.trans e2) _ fun H3 e3 => ⟨i, j, rfl, by
    have : (if (j : Int) < i then (j : Int) else i) = ((min i j : Nat) : Int) := by split <;> omega
    rw [this]; exact q H3 (e2.trans e3)⟩
theorem ev_max2 {σ : L2.St} {H : Hp} {ta tb : TE} {i j : Nat} (ha : Ev ta σ H (.int i)) (hb : Ev tb σ H (.int j)) : Ev (tCB rMax2 (tCons ta (tCons tb tNil))) σ H (.int ((max i j : Nat) : Int)) := fun H1 e Q q =>
  ha H1 e _ fun H2 e2 => hb H2 (e.trans e2) _ fun H3 e3 => ⟨i, j, rfl, by
    have : (if (j : Int) > i then (j : Int) else i) = ((max i j : Nat) : Int) := by split <;> omega
    rw [this]; exact q H3 (e2.trans e3)⟩
theorem boot_min2 : bootBuiltins "min" = some (.builtin "min") := by decide +kernel
theorem boot_max2 : bootBuiltins "max" = some (.builtin "max") := by decide +kernel
theorem ok_lesser (W : Wd mg) (D : Dat K mg "lesser_table" s_lesser ["one", "other"] f fd) : FnOk P w K mg base (L2.CX P w) 1 f fd ["one", "other"] (spTwo K lowT) := by
  refine D.F.okX scLesser (fun vs H Q E h => ?_) (fun cdv A outer s H vs Q E hr h => ?_)
  · obtain ⟨a, b, o, p, rfl, _⟩ := h
    rfl
  · obtain ⟨a, b, o, p, rfl, ha, hb, hl, hz, k⟩ := h
    refine ⟨_, pss_one (ps_ret (pe_l1 (own := [("low", 2), ("high", 3)]) (g := gTup K 2 (gCons (gName 2) (gCons (gName 3) gNil))) (te := tCB rMin2 (tCons (tVar 2) (tCons (tVar 3) tNil))) rfl scLesser.nd (pi_zip rfl W.zip (pa_cons (pv 0) (pa_cons (pv 1) pa_nil))) (blkOk_by (N := nTwo) (sc := defScope s_lesser) (by decide +kernel))
        (fun _ _ _ _ _ => pg_tup rfl (pgs_cons (pg_name (i := 2) scLesser.nd rfl (Or.inl rfl)) (pgs_cons (pg_name (i := 3) scLesser.nd rfl (Or.inl rfl)) pgs_nil))) (fun _ _ _ _ _ => pts_nil) (fun _ _ _ _ _ => pe_callB (call_min2 rfl) (by rfl) W.min boot_min2 (pa_cons (pv 2) (pa_cons (pv 3) pa_nil))))), ?_⟩
    refine s_retL (xs := nv (lowT o p)) (ek_zip (K := K) (xs := nv o) (zs := nv p) .lst (nv (lowT o p)) (ea_cons (ev_var rfl) (ea_cons (ev_var rfl) ea_nil)) ha hb (by simp [lowT, hl]) (by simp [hl]) (by rw [List.length_map]; omega) (fun _ _ => trivial) (fun _ _ => rfl) fun i x z y H1 e hx hz hy => ?_).lst fun q H2 hq e2 h2 => k.go (Ex.refl _) hq e2 h2
    obtain ⟨h1, rfl⟩ := nv_get hx
    obtain ⟨h2, rfl⟩ := nv_get hz
    obtain ⟨h3, rfl⟩ := nv_get hy
    refine ev_is (ev_min2 (ev_var rfl) (ev_var rfl)) ?_
    unfold lowT
    rw [zip_at h1 h2]
theorem ok_greater (W : Wd mg) (D : Dat K mg "greater_table" s_greater ["one", "other"] f fd) : FnOk P w K mg base (L2.CX P w) 1 f fd ["one", "other"] (spTwo K highT) := by
  refine D.F.okX scGreater (fun vs H Q E h => ?_) (fun cdv A outer s H vs Q E hr h => ?_)
  · obtain ⟨a, b, o, p, rfl, _⟩ := h
    rfl
  · obtain ⟨a, b, o, p, rfl, ha, hb, hl, hz, k⟩ := h
    refine ⟨_, pss_one (ps_ret (pe_l1 (own := [("low", 2), ("high", 3)]) (g := gTup K 2 (gCons (gName 2) (gCons (gName 3) gNil))) (te := tCB rMax2 (tCons (tVar 2) (tCons (tVar 3) tNil))) rfl scGreater.nd (pi_zip rfl W.zip (pa_cons (pv 0) (pa_cons (pv 1) pa_nil))) (blkOk_by (N := nTwo) (sc := defScope s_greater) (by decide +kernel))
        (fun _ _ _ _ _ => pg_tup rfl (pgs_cons (pg_name (i := 2) scGreater.nd rfl (Or.inl rfl)) (pgs_cons (pg_name (i := 3) scGreater.nd rfl (Or.inl rfl)) pgs_nil))) (fun _ _ _ _ _ => pts_nil) (fun _ _ _ _ _ => pe_callB (call_max2 rfl) (by rfl) W.max boot_max2 (pa_cons (pv 2) (pa_cons (pv 3) pa_nil))))), ?_⟩
    refine s_retL (xs := nv (highT o p)) (ek_zip (K := K) (xs := nv o) (zs := nv p) .lst (nv (highT o p)) (ea_cons (ev_var rfl) (ea_cons (ev_var rfl) ea_nil)) ha hb (by simp [highT, hl]) (by simp [hl]) (by rw [List.length_map]; omega) (fun _ _ => trivial) (fun _ _ => rfl) fun i x z y H1 e hx hz hy => ?_).lst fun q H2 hq e2 h2 => k.go (Ex.refl _) hq e2 h2
    obtain ⟨h1, rfl⟩ := nv_get hx
    obtain ⟨h2, rfl⟩ := nv_get hz
    obtain ⟨h3, rfl⟩ := nv_get hy
    refine ev_is (ev_max2 (ev_var rfl) (ev_var rfl)) ?_
    unfold highT
    rw [zip_at h1 h2]
end
end Z
end
/-! Y15 -/
set_option linter.all false
set_option maxRecDepth 100000
set_option maxHeartbeats 4000000
noncomputable section
namespace Z
open PySem PySem.Spec PyProof.Rows L2 PySem.Froz Evl TS GenW

/-! ### rising, whatever numbers it gets -/
structure RisZ (zs : List Int) : Prop where
  pos : 0 < zs.length
  zero : 0 ≤ zs.getD 0 0
  up : ∀ i, i + 1 < zs.length → zs.getD i 0 ≤ zs.getD (i + 1) 0
  last : zs.getD (zs.length - 1) 0 < (zs.length : Int)
def risB (zs : List Int) : Bool := @decide (RisZ zs) (Classical.propDecidable _)
theorem risB_yes {zs : List Int} (h : RisZ zs) : risB zs = true := by unfold risB; exact @decide_eq_true _ (Classical.propDecidable _) h
theorem risB_no {zs : List Int} (h : ¬ RisZ zs) : risB zs = false := by unfold risB; exact @decide_eq_false _ (Classical.propDecidable _) h
theorem risB_eq {zs : List Int} {b : Bool} (h1 : b = true → RisZ zs) (h2 : b = false → ¬ RisZ zs) : risB zs = b := by
  cases b with
  | true => exact risB_yes (h1 rfl)
  | false => exact risB_no (h2 rfl)
abbrev iv (zs : List Int) : List V := zs.map V.int
theorem nv_iv (ns : List Nat) : nv ns = iv (ns.map fun (k : Nat) => (k : Int)) := by simp [nv, iv]
theorem iv_get {zs : List Int} {i : Nat} {x : V} (h : (iv zs)[i]? = some x) : i < zs.length ∧ x = .int (zs.getD i 0) := by
  have hi := (List.getElem?_eq_some_iff.mp h).1
  rw [List.length_map] at hi
  refine ⟨hi, ?_⟩
  simp [List.getElem?_map, hi] at h
  simp [hi, h]
theorem iv_at {zs : List Int} {k : Nat} (h : k < zs.length) : atI (iv zs) (k : Int) = some (.int (zs.getD k 0)) := by
  rw [atI_nat]
  simp [h]
theorem iv_last {zs : List Int} (h : 0 < zs.length) : atI (iv zs) (-1) = some (.int (zs.getD (zs.length - 1) 0)) := by
  unfold atI ixN
  have e : ((iv zs).length : Int) = (zs.length : Int) := by simp
  rw [e, if_neg (by omega), if_pos (by omega)]
  have e2 : ((-1 : Int) + (zs.length : Int)).toNat = zs.length - 1 := by omega
  simp [e2, Nat.sub_lt h Nat.one_pos]
theorem gss_no {X : Cx} {st : List Stmt} : GSs X st (fun _ _ _ _ => False) := ⟨fun _ _ _ _ _ _ _ _ _ _ _ _ _ _ _ _ _ _ _ _ _ h => h.elim⟩
section
variable {P : Program} {w : World} {K : PySem.W.Frag} {mg : PySem.Str → Option Value} {base : Heap} {f f1 f2 CS CG fI : Addr} {fd fd1 fd2 fdI : FuncData}
theorem ev_atZ {σ : L2.St} {H : Hp} {ta tb : TE} {a : Addr} {zs : List Int} {k : Nat} (h : Ev ta σ H (.ref a)) (hi : Ev tb σ H (.int (k : Int))) (hx : SqL K H a (iv zs)) (hk : k < zs.length) : Ev (tOp (rIxL K) ta tb) σ H (.int (zs.getD k 0)) := ev_op h hi (rv_ixL hx (iv_at hk))
theorem ev_lenZ {σ : L2.St} {H : Hp} {te : TE} {a : Addr} {zs : List Int} (h : Ev te σ H (.ref a)) (hx : SqL K H a (iv zs)) : Ev (tCB (rLenS K) (tCons te tNil)) σ H (.int (zs.length : Int)) := ev_is (ev_len h hx) (by simp)
def spRisZ (K : PySem.W.Frag) : Sp := fun vs H Q _ => ∃ (a : Addr) (zs : List Int), vs = [.ref a] ∧ SqL K H a (iv zs) ∧ zs.length ≤ 1000 ∧ RetV (.bl (risB zs)) H Q
theorem ok_risingZ (W : Wd mg) (D : Dat K mg "rising" s_rising ["table"] f fd) : FnOk P w K mg base (L2.CX P w) 1 f fd ["table"] (spRisZ K) := by
  refine D.F.okX scRis (fun vs H Q E h => ?_) (fun cdv A outer s H vs Q E hr h => ?_)
  · obtain ⟨a, zs, rfl, _⟩ := h
    rfl
  · obtain ⟨a, zs, rfl, ha, hz, k⟩ := h
    refine ⟨_, pss_cons (ps_set (i := 1) scRis.nd rfl (Or.inl rfl) (pe_callB call_len_seq (by rfl) W.len PySem.boot_len (pa_cons (pv 0) pa_nil)))
      (pss_cons (ps_if (PW.pt (pw_or (pt_cmpR op_eq (pv 1) pe_int (nomark _)) (pw_or (pt_cmpR op_lt (pe_ix ix_list (pv 0) pe_int (fun _ _ => rfl)) pe_int (nomark _)) (pw_or1 (pt_cmpR op_ge (pe_ix ix_list (pv 0) (pe_un un_neg pe_int) (fun _ _ => rfl)) (pv 1) (nomark _)))))) (pss_one (ps_ret pe_bl)) pss_nil)
      (pss_one (ps_ret (pe_callB (cr_all rfl) (by rfl) W.all boot_all (pa_cons (pe_l1 (own := [("at", 2)]) (g := gName 2) (te := tOp (rI0 fun i j => .bl (decide (i ≤ j))) (tOp (rIxL K) (tVar 0) (tVar 2)) (tOp (rIxL K) (tVar 0) (tOp (rI0 fun i j => .int (i + j)) (tVar 2) (tC (.int 1))))) rfl scRis.nd (pi_range1 rfl W.range (pa_cons (pe_op op_sub (pv 1) pe_int) pa_nil)) (blkOk_by (N := nRis) (sc := defScope s_rising) (by decide +kernel))
        (fun _ _ _ _ _ => pg_name (i := 2) scRis.nd rfl (Or.inl rfl)) (fun _ _ _ _ _ => pts_nil) (fun _ _ _ _ _ => pe_cmpR op_le (pe_ix ix_list (pv 0) (pv 2) (fun _ _ => rfl)) (pe_ix ix_list (pv 0) (pe_op op_add (pv 2) pe_int) (fun _ _ => rfl)) (nomark _))) pa_nil))))), ?_⟩
    refine q_asg (ev_lenZ (zs := zs) (ev_var rfl) ha) fun H1 e1 => ?_
    have ha1 := ex_l e1 ha
    rcases Nat.eq_zero_or_pos zs.length with hp | hp
    · refine q_when (b := true) (et_is (et_or (a := true) (b := false) (et_is (ev_eqI (ev_var rfl) ev_c) (by rw [hp]; rfl)) fun z => Bool.noConfusion z) rfl) (fun _ H2 e2 => ?_) fun z => Bool.noConfusion z
      refine s_ret ev_c fun H3 e3 => ?_
      rw [← risB_no (zs := zs) fun r => absurd r.pos (by omega)]
      exact k H3 ((e1.trans e2).trans e3)
    refine q_when (b := decide (zs.getD 0 0 < 0) || decide (zs.getD (zs.length - 1) 0 ≥ (zs.length : Int))) (et_is (et_or (a := false) (et_is (ev_eqI (ev_var rfl) ev_c) (decide_eq_false (by omega))) fun _ => et_or (ev_ltI (g := fun i j => decide (i < j)) (ev_atZ (zs := zs) (k := 0) (ev_var rfl) ev_c ha1 hp) ev_c) fun _ => ev_ltI (g := fun i j => decide (i ≥ j)) (ev_op (ev_var rfl) ev_neg1 (rv_ixL ha1 (iv_last hp))) (ev_var rfl)) rfl) (fun hb H2 e2 => ?_) fun hb H2 e2 => ?_
    · refine s_ret ev_c fun H3 e3 => ?_
      rw [← risB_no (zs := zs) fun r => by
        have h1 := r.zero
        have h2 := r.last
        simp only [Bool.or_eq_true, decide_eq_true_eq] at hb
        omega]
      exact k H3 ((e1.trans e2).trans e3)
    · simp only [Bool.or_eq_false_iff, decide_eq_false_iff_not] at hb
      have ha2 := ex_l e2 ha1
      have upB : ((List.range (zs.length - 1)).map fun i => decide (zs.getD i 0 ≤ zs.getD (i + 1) 0)).all id = risB zs := by
        refine (risB_eq (fun h => ?_) fun h r => ?_).symm
        · rw [List.all_map, List.all_eq_true] at h
          refine ⟨hp, by omega, fun i hi => ?_, by omega⟩
          exact of_decide_eq_true (h i (List.mem_range.mpr (by omega)))
        · rw [List.all_map, List.all_eq_false] at h
          obtain ⟨i, hi, hn⟩ := h
          exact hn (decide_eq_true (r.up i (by have := List.mem_range.mp hi; omega)))
      refine s_ret (v := .bl (risB zs)) ?_ fun H3 e3 => k H3 ((e1.trans e2).trans e3)
      rw [← upB]
      refine ev_all (bs := (List.range (zs.length - 1)).map fun i => decide (zs.getD i 0 ≤ zs.getD (i + 1) 0)) ?_
      rw [List.map_map]
      refine (ek_kc .lst _ (ei_rng1 (n := ((zs.length - 1 : Nat) : Int)) (ea_cons (ev_is (ev_op (ev_var rfl) ev_c rv_I0) (by congr 1; omega)) ea_nil) (by omega) (by omega)) (by simp [nums]) (by rw [nums_len]; omega) (fun _ _ => trivial) (fun _ => rfl) fun i z y H3 e3 hz1 hy => ?_).lst
      obtain ⟨hi, rfl⟩ := nums_at hz1
      have h1 : i + 1 < zs.length := by omega
      have hy' : y = .bl (decide (zs.getD i 0 ≤ zs.getD (i + 1) 0)) := by
        rw [List.getElem?_map, List.getElem?_range (by omega)] at hy
        exact (Option.some.inj hy).symm
      subst hy'
      have ha3 := ex_l e3 ha2
      exact ev_op (ev_atZ (zs := zs) (k := i) (ev_var rfl) (ev_is (ev_var rfl) (by simp)) ha3 (by omega)) (ev_atZ (zs := zs) (k := i + 1) (ev_var rfl) (ev_is (ev_op (ev_var rfl) ev_c rv_I0) (by simp)) ha3 h1) rv_I0
/-! ### walk_tables of a bad number -/
def spWalkX (C : Addr) : SpG := fun vs H Q E => ∃ n : Int, vs = [.int n] ∧ ¬ (1 ≤ n ∧ n ≤ 8) ∧ RaiseF C [("many", .int n)] H E
theorem ok_walkX (W : Wd mg) (D : Dat K mg "walk_tables" s_walk ["steps"] f fd) (D1 : Dat K mg "check_steps" s_check_steps ["many", "most"] f1 fd1) (G1 : FnOk P w K mg base (L2.CX P w) 3 f1 fd1 ["many", "most"] (spStepsB CS)) : GFn P w K mg base 4 f fd ["steps"] (spWalkX CS) := by
  refine gfn_fun D.F scWalk (fun vs H Q E h => by obtain ⟨n, rfl, _⟩ := h; rfl) fun cdv A outer s H vs Q E pn hr h => ?_
  obtain ⟨n, rfl, hn, k⟩ := h
  obtain ⟨tw, gw⟩ := W.walked
  refine ⟨_, gss_cons (gs_ps (ps_expr (pe_callS G1 hr rfl D1.g D1.k D1.b (fun σ => passAt takes_gcx σ) (pa_cons (pv 0) (pa_cons (pe_gi rfl gw) pa_nil))))) gss_no, ?_⟩
  exact ⟨.int n, rfl, n, 8, rfl, fun z => absurd z hn, fun _ => k⟩
/-! ### walk_tables of eight steps, as far as the second table -/
theorem gf2_fun {x qual : PySem.Str} {st : Stmt} {N ps : List PySem.Str} {k : Nat} {sp : SpF2} {rest : List Stmt} (F : Fun K x qual st f fd) (S : GScope N ps (defScope st)) (len : ∀ vs H D, sp vs H D → vs.length = ps.length) (hi : ∀ l cdv, interactive (envOfC qual (defScope st) l f cdv) = false)
    (hbody : ∀ (cdv : Value) (A : Around) (outer : List Env) (s : Shared) (H : Hp) (vs : List V) (D : D2T) (pn : List (Addr × Obj)), Room k (A.deeper (envOfC qual (defScope st) s.heap.objs.size f cdv)) → sp vs H D →
      ∃ t, Fst2 (gcxOf P w K mg base N qual (defScope st) f cdv A outer s H EN pn) (defBody st) rest t ∧ t (start N vs) H fun x σ' H' => ∃ R, D x H' R ∧ ∀ (H2 : Hp) (D2 : V → Hp → Prop), R H2 D2 →
        ∀ s' : Shared, s'.heap.objs.size = s.heap.objs.size → ∃ u, First (gcxOf P w K mg base N qual (defScope st) f cdv A outer s' H2 EN pn) rest u ∧ u σ' H2 D2) : GF2 P w K mg base (k + 1) f fd ps sp := by
  obtain ⟨oc, od, kV, doc, pm, an, cdv, ct, osl, rfl, lk, hcd⟩ := F.ex
  exact gf2_of lk hcd S len (fun l => hi l cdv) fun A outer s H vs D pn hr hsp => hbody cdv A outer s H vs D pn hr hsp
def z8 : List Nat := List.replicate 8 0
def z81 : List Nat := [0, 0, 0, 0, 0, 0, 0, 1]
def spWalk2 : SpF2 := fun vs H D => vs = [.int 8] ∧ ∀ p q H', H p = none → q ≠ p → Ex H H' → H' p = some (.lst (nv z8)) → H' q = some (.lst (nv z8)) →
  D (.ref q) H' fun H2 D2 => H2 p = some (.lst (nv z8)) ∧ ∀ q2 H3, Ex H2 H3 → H3 q2 = some (.lst (nv z81)) → D2 (.ref q2) H3
theorem ok_walk2 (W : Wd mg) (D : Dat K mg "walk_tables" s_walk ["steps"] f fd) (D1 : Dat K mg "check_steps" s_check_steps ["many", "most"] f1 fd1) (G1 : FnOk P w K mg base (L2.CX P w) 1 f1 fd1 ["many", "most"] spSteps) : GF2 P w K mg base 2 f fd ["steps"] spWalk2 := by
  refine gf2_fun (rest := (defBody s_walk).drop 3) D.F scWalk (fun vs H D h => by obtain ⟨rfl, _⟩ := h; rfl) (fun _ _ => rfl) fun cdv A outer s H vs Dq pn hr h => ?_
  obtain ⟨rfl, k⟩ := h
  obtain ⟨tw, gw⟩ := W.walked
  refine ⟨_, fst2_cons (ps_expr (pe_call G1 hr rfl D1.g D1.k D1.b .nil pas0 (pa_cons (pv 0) (pa_cons (pe_gi rfl gw) pa_nil))))
    (fst2_cons (ps_set (i := 1) scWalk.nd rfl (Or.inr rfl) (pe_op op_rep (pe_lst (pa_cons pe_int pa_nil)) (pv 0)))
    (fst2_yield (pe_callTy call_list_of rfl W.list PyProof.Rows.boot_list (pa_cons (pv 1) pa_nil)))), ?_⟩
  refine s_drop (ev_call (z := .non) (ea_cons (ev_var rfl) (ea_cons ev_c ea_nil)) (sv_steps (by decide) (by decide))) fun H1 e1 => ?_
  refine s_asgL (el_rep1 (k := 8) (el_litN ev_c) (ev_var rfl) (by decide)) fun p H2 hp e2 h2 => ?_
  dsimp only
  refine el_list (K := K) (ev_var rfl) (sq_of h2) H2 (Ex.refl _) _ fun q H3 hq e3 h3 => ?_
  refine ⟨_, k p q H3 (fresh_back e1 hp) (fun z => by rw [z, h2] at hq; cases hq) ((e1.trans e2).trans e3) (by rw [e3 _ _ h2]; rfl) (by rw [h3]; rfl), fun H4 D2 ⟨hT, k2⟩ s' hs => ?_⟩
  refine ⟨_, first_while never_gcx (pt_cmpR op_lt (pe_ix ix_list (pv 1) pe_int (fun _ _ => rfl)) (pe_op op_sub (pv 0) pe_int) (nomark _))
    (first_cons (ps_set (i := 2) scWalk.nd rfl (Or.inl rfl) (pe_callB (cr_max rfl) (by rfl) W.max (by decide +kernel) (pa_cons (pe_l1 (own := [("place", 3)]) (g := gName 3) (tt := tTest (tOp (rI0 fun i j => .bl (decide (i < j))) (tOp (rIxL K) (tVar 1) (tVar 3)) (tOp (rI0 fun i j => .int (i - j)) (tVar 0) (tC (.int 1))))) (te := tVar 3) rfl scWalk.nd (pi_range1 rfl W.range (pa_cons (pv 0) pa_nil)) (blkOk_by (N := nWalk) (sc := defScope s_walk) (by decide +kernel))
        (fun _ _ _ _ _ => pg_name (i := 3) scWalk.nd rfl (Or.inl rfl)) (fun _ _ _ _ _ => pts_one (pt_cmpR op_lt (pe_ix ix_list (pv 1) (pv 3) (fun _ _ => rfl)) (pe_op op_sub (pv 0) pe_int) (nomark _))) (fun _ _ _ _ _ => pv 3)) pa_nil)))
    (first_cons (ps_set (i := 1) scWalk.nd rfl (Or.inr rfl) (pe_op op_cat (pe_slice sl_list (pv 1) po_none (po_some (pv 2))) (pe_op op_rep (pe_lst (pa_cons (pe_op op_add (pe_ix ix_list (pv 1) (pv 2) (fun _ _ => rfl)) pe_int) pa_nil)) (pe_op op_sub (pv 0) (pv 2)))))
    (first_yield (pe_callTy call_list_of rfl W.list PyProof.Rows.boot_list (pa_cons (pv 1) pa_nil))))), ?_⟩
  have hz : z8.length = 8 := rfl
  refine et_is (b := true) (ev_ltI (g := fun i j => decide (i < j)) (ev_atN (ns := z8) (k := 0) (ev_var rfl) ev_c (sq_of hT) (by decide)) (ev_is (v := .int 7) (ev_op (ev_var rfl) ev_c rv_I0) rfl)) rfl H4 (Ex.refl _) _ fun H5 e5 => ⟨rfl, ?_⟩
  have hT5 := e5 _ _ hT
  have cand : EvL (tKc P w .lst (iRng1 (tCons (tVar 0) tNil)) (gName 3) (tTest (tOp (rI0 fun i j => .bl (decide (i < j))) (tOp (rIxL K) (tVar 1) (tVar 3)) (tOp (rI0 fun i j => .int (i - j)) (tVar 0) (tC (.int 1))))) (tVar 3) [3]) [some (.int 8), some (.ref p), none, none] H5 (nv ((List.range 8).filter fun p => decide (z8.getD p 0 < 8 - 1))) := by
    have z := (ek_kcF (P := P) (w := w) .lst (fun p => decide (z8.getD p 0 < 8 - 1)) (fun p => V.int (p : Nat)) (tt := tTest (tOp (rI0 fun i j => .bl (decide (i < j))) (tOp (rIxL K) (tVar 1) (tVar 3)) (tOp (rI0 fun i j => .int (i - j)) (tVar 0) (tC (.int 1))))) (te := tVar 3) (wi := iRng1 (tCons (tVar 0) tNil)) (j := 3) (vs := [3]) (σ := [some (.int 8), some (.ref p), none, none]) (H := H5) (ei_rng1 (n := 8) (ea_cons (ev_var rfl) ea_nil) (by omega) (by omega)) (by rw [nums_len]; decide) (fun _ => trivial) (fun _ => rfl) (fun c x H6 e6 hx => ?_) fun c x H6 e6 hx hf => ?_).lst
    · rw [nums_len] at z
      exact z
    · obtain ⟨hp, rfl⟩ := nums_at hx
      exact et_is (ev_ltI (g := fun i j => decide (i < j)) (ev_atN (ns := z8) (k := c) (ev_var rfl) (ev_is (ev_var rfl) (by rw [Int.zero_add])) (sq_of (e6 _ _ hT5)) hp) (ev_is (v := .int 7) (ev_op (ev_var rfl) ev_c rv_I0) rfl)) (by simp only [decide_eq_decide]; omega)
    · obtain ⟨hp, rfl⟩ := nums_at hx
      exact ev_is (ev_var rfl) (by rw [Int.zero_add])
  refine s_asg (ev_maxN (K := K) (m := 7) cand (by decide) (by decide)) fun H6 e6 => ?_
  have hT6 := e6 _ _ hT5
  dsimp only
  refine s_asgL (xs := nv z81) ?_ fun t' H7 ht' e7 h7 => ?_
  · have e81 : nv z81 = cutV (nv z8) none (some ((7 : Nat) : Int)) ++ List.replicate 1 (V.int 1) := by decide
    rw [e81]
    exact el_cat (el_sl (ev_var rfl) eo_none (eo_some (ev_var rfl)) (sq_of hT6)) (el_rep1 (k := 1) (el_litN (ev_is (ev_op (ev_atN (ns := z8) (k := 7) (ev_var rfl) (ev_var rfl) (sq_of hT6) (by decide)) ev_c rv_I0) rfl)) (ev_is (ev_op (ev_var rfl) (ev_var rfl) rv_I0) rfl) (by decide)) (by have := cutV_length (nv z8) none (some ((7 : Nat) : Int)); simp only [List.length_map, hz] at this; rw [List.length_replicate]; omega)
  · dsimp only
    refine el_list (K := K) (ev_var rfl) (sq_of h7) H7 (Ex.refl _) _ fun q2 H8 hq2 e8 h8 => ?_
    exact k2 q2 H8 (((e5.trans e6).trans e7).trans e8) h8
end
end Z
end
/-! Y16 -/
set_option linter.all false
set_option maxRecDepth 100000
set_option maxHeartbeats 4000000
noncomputable section
namespace Z
/-! of Z10 -/
open PySem PySem.Spec PyProof.Rows L2 PySem.Froz Evl TS

section
variable {σ : L2.St} {H H1 : Hp} {tb tz : TS} {D : Ends} {wi : TI} {xs : List V} {j : Nat}
/-- a loop whose body changes what the ground does not know -/
theorem s_forN (h : EvI wi σ H xs) (e1 : Ex H H1) (Pv : Nat → L2.St → Hp → Prop) (h0 : ∀ H2, Ex H1 H2 → Pv 0 σ H2)
    (hs : ∀ G i x σ' H', Ex H G → (∀ b, H b = none → H1 b ≠ none → G b = none) → Ex G H' → xs[i]? = some x → Pv i σ' H' → tb { D with nx := fun σ2 H2 => Ex G H2 ∧ Pv (i + 1) σ2 H2, ct := fun σ2 H2 => Ex G H2 ∧ Pv (i + 1) σ2 H2, bk := D.nx } (σ'.set j (some x)) H')
    (hd : ∀ σ' H', Ex H H' → Pv xs.length σ' H' → D.nx σ' H') : tFor wi (gName j) tb D σ H1 := h H1 e1 _ fun J H2 G e2 eG eG2 nG g => by
  refine ⟨fun i m σ' H' => i ≤ xs.length ∧ m = xs.length - i ∧ Ex G H' ∧ Pv i σ' H', ⟨xs.length, Nat.zero_le _, by simp, eG2, h0 H2 e2⟩, ?_⟩
  rintro i m σ' H' ⟨hi, rfl, c, p⟩
  cases q : xs[i]? with
  | some x =>
    have hlt := (List.getElem?_eq_some_iff.mp q).1
    refine .inr ⟨g.go i x H' q c, fun σ2 H2 => Ex G H2 ∧ Pv (i + 1) σ2 H2, fun σ2 H2 p' => ⟨xs.length - (i + 1), by omega, hlt, rfl, p'⟩, fun y H2 hy => ?_⟩
    obtain ⟨rfl, rfl⟩ := g.yld i x H' y H2 q c hy
    exact hs G i _ _ _ eG nG c q p
  | none =>
    have z : i = xs.length := Nat.le_antisymm hi (List.getElem?_eq_none_iff.mp q)
    subst z
    exact .inl ⟨g.stop _ H' (Nat.le_refl _) c, hd _ _ (eG.trans c) p⟩
theorem q_forN (h : EvI wi σ H xs) (e1 : Ex H H1) (Pv : Nat → L2.St → Hp → Prop) (h0 : ∀ H2, Ex H1 H2 → Pv 0 σ H2)
    (hs : ∀ G i x σ' H', Ex H G → (∀ b, H b = none → H1 b ≠ none → G b = none) → Ex G H' → xs[i]? = some x → Pv i σ' H' → tb { D with nx := fun σ2 H2 => Ex G H2 ∧ Pv (i + 1) σ2 H2, ct := fun σ2 H2 => Ex G H2 ∧ Pv (i + 1) σ2 H2, bk := tz D } (σ'.set j (some x)) H')
    (hd : ∀ σ' H', Ex H H' → Pv xs.length σ' H' → tz D σ' H') : tSeq (tFor wi (gName j) tb) tz D σ H1 := s_forN (D := { D with nx := tz D }) h e1 Pv h0 hs hd
end

abbrev s_read : Stmt := top 55
abbrev s_source : Stmt := top 56
abbrev s_draw : Stmt := top 57
abbrev s_size : Stmt := top 59
/-- the pair that the draws change, n of them at most so far -/
def Src (H : Hp) (a : Addr) (n : Nat) : Prop := ∃ u v : Int, H a = some (.lst [.int u, .int v]) ∧ -1 ≤ v ∧ v ≤ n
theorem Src.mono {H H' : Hp} {a : Addr} {n : Nat} (e : Ex H H') (h : Src H a n) : Src H' a n := by
  obtain ⟨u, v, h1, h2⟩ := h
  exact ⟨u, v, e _ _ h1, h2⟩
theorem Src.more {H : Hp} {a : Addr} {n m : Nat} (h : Src H a n) (hm : n ≤ m) : Src H a m := by
  obtain ⟨u, v, h1, h2, h3⟩ := h
  exact ⟨u, v, h1, h2, by omega⟩
section
variable {σ : L2.St} {H : Hp} {te : TE} {ta : TA} {D : Ends} {tz : TS} {i : Nat} {R : V → Hp → Prop}
theorem evp_call {sp : Sp} {vs : List V} {E : XK} (h : EvA ta σ H vs) (hs : ∀ H1, Ex H H1 → ∀ Q : VK, (∀ v H2, Ex H1 H2 → R v H2 → Q v H2) → ∀ E, sp vs H1 Q E) : EvP (tCall sp [] E ta) σ H R := fun H1 e Q q =>
  h H1 e _ fun H2 e2 => by
    rw [List.append_nil]
    exact hs H2 (e.trans e2) Q (fun v H3 e3 r => q v H3 (e2.trans e3) r) E
end
section
variable {P : Program} {w : World} {K : PySem.W.Frag} {mg : PySem.Str → Option Value} {base : Heap} {f f1 : Addr} {fd fd1 : FuncData}
def spRead (K : PySem.W.Frag) : Sp := fun vs H Q _ => ∃ (a : Addr) (k : Nat) (ns : List Int), vs = [.ref a, .int k] ∧ SqL K H a (ns.map V.int) ∧ ns.length ≤ 63 ∧ ∀ (v : Int) (H2 : Hp), Ex H H2 → Q (.int v) H2
theorem scRead : FnScope ["_law_script", "_law_k"] ["_law_script", "_law_k"] (defScope s_read) := ⟨rfl, rfl, rfl, by decide +kernel, rfl, by decide +kernel, by decide +kernel⟩
theorem ok_read (W : Wd mg) (D : Dat K mg "_law_read" s_read ["_law_script", "_law_k"] f fd) : FnOk P w K mg base (L2.CX P w) 1 f fd ["_law_script", "_law_k"] (spRead K) := by
  refine D.F.okX scRead (fun vs H Q E h => ?_) (fun cdv A outer s H vs Q E hr h => ?_)
  · obtain ⟨a, k, ns, rfl, _⟩ := h
    rfl
  · obtain ⟨a, k, ns, rfl, hS, hl, q⟩ := h
    refine ⟨_, pss_cons (ps_if (pt_cmpR op_lt (pv 1) (pe_callB call_len_seq (by rfl) W.len PySem.boot_len (pa_cons (pv 0) pa_nil)) (nomark _)) (pss_one (ps_ret (pe_ix ix_list (pv 0) (pv 1) (fun _ _ => rfl)))) pss_nil) (pss_one (ps_ret pe_int)), ?_⟩
    refine q_when (et_test (ev_op (x := .int (k : Int)) (y := .int ((ns.map V.int).length : Int)) (ev_var rfl) (ev_len (K := K) (ev_var rfl) hS) rv_I0)) (fun hb H1 e => ?_) fun hb H1 e => s_ret ev_c fun H2 e2 => q 0 H2 (e.trans e2)
    have hk := of_decide_eq_true hb
    rw [List.length_map] at hk
    have hk2 : k < ns.length := by omega
    refine s_ret (ev_op (ev_var rfl) (ev_var rfl) (rv_ixL (ex_l e hS) (v := .int ns[k]) ?_)) fun H2 e2 => q _ H2 (e.trans e2)
    rw [atI_nat]
    simp [hk2]
/-- a new pair -/
def spSource (K : PySem.W.Frag) : Sp := fun vs H Q _ => ∃ (a : Addr) (k : Nat) (ns : List Int), vs = [.ref a, .int k] ∧ SqL K H a (ns.map V.int) ∧ ns.length ≤ 63 ∧ ∀ (p : Addr) (H2 : Hp), H p = none → Ex H H2 → Src H2 p 0 → Q (.ref p) H2
theorem scSource : FnScope ["_law_script", "_law_k", "_law_cell"] ["_law_script", "_law_k"] (defScope s_source) := ⟨rfl, rfl, rfl, by decide +kernel, rfl, by decide +kernel, by decide +kernel⟩
theorem ev_abs {σ : L2.St} {H : Hp} {te : TE} {i : Int} (h : Ev te σ H (.int i)) : Ev (tCB (fun xs H Q => ∃ i, xs = [V.int i] ∧ Q (.int (if i < 0 then -i else i)) H) (tCons te tNil)) σ H (.int (if i < 0 then -i else i)) := fun H1 e Q q => h H1 e _ fun H2 e2 => ⟨i, rfl, q H2 e2⟩
abbrev rInt : List V → Hp → VK → Prop := fun xs H Q => (∃ i, xs = [V.int i] ∧ Q (.int i) H) ∨ ∃ k, xs = [V.bl k] ∧ Q (.int (if k then 1 else 0)) H
theorem ev_int {σ : L2.St} {H : Hp} {te : TE} {i : Int} (h : Ev te σ H (.int i)) : Ev (tCB rInt (tCons te tNil)) σ H (.int i) := fun H1 e Q q => h H1 e _ fun H2 e2 => .inl ⟨i, rfl, q H2 e2⟩
theorem ev_intB {σ : L2.St} {H : Hp} {te : TE} {b : Bool} (h : Ev te σ H (.bl b)) : Ev (tCB rInt (tCons te tNil)) σ H (.int (if b then 1 else 0)) := fun H1 e Q q => h H1 e _ fun H2 e2 => .inr ⟨b, rfl, q H2 e2⟩
theorem ok_source (L : Lb mg) (D : Dat K mg "_law_source" s_source ["_law_script", "_law_k"] f fd) (D1 : Dat K mg "_law_read" s_read ["_law_script", "_law_k"] f1 fd1) (G1 : FnOk P w K mg base (L2.CX P w) 1 f1 fd1 ["_law_script", "_law_k"] (spRead K)) :
    FnOk P w K mg base (L2.CX P w) 2 f fd ["_law_script", "_law_k"] (spSource K) := by
  refine D.F.okX scSource (fun vs H Q E h => ?_) (fun cdv A outer s H vs Q E hr h => ?_)
  · obtain ⟨a, k, ns, rfl, _⟩ := h
    rfl
  · obtain ⟨a, k, ns, rfl, hS, hl, q⟩ := h
    refine ⟨_, pss_cons (ps_set (i := 2) scSource.nd rfl (Or.inl rfl) (pe_call G1 hr rfl D1.g D1.k D1.b .nil pas0 (pa_cons (pv 0) (pa_cons (pv 1) pa_nil))))
      (pss_cons (ps_if (pt_cmpR op_ge (pe_callB call_abs (by rfl) L.abs boot_abs (pa_cons (pv 2) pa_nil)) (pe_op op_pow pe_int pe_int) (nomark _))
        (pss_one (ps_ret (pe_lst (pa_cons (pe_op op_mod (pe_callTy call_int1 rfl L.int PyProof.Rows.boot_int (pa_cons (pe_op op_sub (pe_callB call_abs (by rfl) L.abs boot_abs (pa_cons (pv 2) pa_nil)) (pe_op op_pow pe_int pe_int)) pa_nil)) (pe_op op_pow pe_int pe_int)) (pa_cons (pe_un un_neg pe_int) pa_nil))))) pss_nil)
      (pss_one (ps_ret (pe_lst (pa_cons (pe_op op_add (pe_op op_mul pe_int (pe_callB call_abs (by rfl) L.abs boot_abs (pa_cons (pv 2) pa_nil))) (pe_callTy call_int1 rfl L.int PyProof.Rows.boot_int (pa_cons (pe_cmpR op_lt (pv 2) pe_int (nomark _)) pa_nil))) (pa_cons pe_int pa_nil)))))), ?_⟩
    refine q_asgP (R := fun v _ => ∃ c : Int, v = .int c) (evp_call (vs := [.ref a, .int k]) (ea_cons (ev_var rfl) (ea_cons (ev_var rfl) ea_nil)) fun H1 e Q q E => ⟨a, k, ns, rfl, ex_l e hS, hl, fun v H2 e2 => q _ H2 e2 ⟨v, rfl⟩⟩) fun v H1 e1 hv => ?_
    obtain ⟨c, rfl⟩ := hv
    have p18 : CPow 10 18 := ⟨by decide, by decide, by decide⟩
    have p60 : CPow 10 60 := ⟨by decide, by decide, by decide⟩
    refine q_when (et_test (ev_op (ev_abs (ev_var rfl)) (ev_op ev_c ev_c (rv_I p18)) rv_I0)) (fun hb H2 e2 => ?_) fun hb H2 e2 => ?_
    · refine s_retL (el_lst (ea_cons (ev_op (ev_int (ev_op (ev_abs (ev_var rfl)) (ev_op ev_c ev_c (rv_I p18)) rv_I0)) (ev_op ev_c ev_c (rv_I p60)) (rv_I (by decide))) (ea_cons ev_neg1 ea_nil)) (by show 2 ≤ 100000; decide)) fun p H3 hp e3 h3 => q p H3 (fresh_back (e1.trans e2) hp) ((e1.trans e2).trans e3) ⟨_, _, h3, by decide, by decide⟩
    · refine s_retL (el_lst (ea_cons (ev_op (ev_op ev_c (ev_abs (ev_var rfl)) (rv_I (.inl ⟨by decide, by decide⟩))) (ev_intB (ev_op (ev_var rfl) ev_c rv_I0)) rv_I0) (ea_cons ev_c ea_nil)) (by show 2 ≤ 100000; decide)) fun p H3 hp e3 h3 => q p H3 (fresh_back (e1.trans e2) hp) ((e1.trans e2).trans e3) ⟨_, _, h3, by decide, by decide⟩
end

def spDraw : Sp := fun vs H Q _ => ∃ (a : Addr) (m : Int) (n : Nat), vs = [.ref a, .int m] ∧ Src H a n ∧ n ≤ 2 ^ 40 ∧ m < 2 ^ 29 ∧ ∀ (r : Int) (H2 : Hp), 0 ≤ r → (r < m ∨ r = 0) → ExB a H H2 → Src H2 a (n + 1) → Q (.int r) H2
section
variable {P : Program} {w : World} {K : PySem.W.Frag} {mg : PySem.Str → Option Value} {base : Heap} {f f1 : Addr} {fd fd1 : FuncData}
theorem ix0 {K : PySem.W.Frag} {H : Hp} {a : Addr} {u v : Int} (h : H a = some (.lst [.int u, .int v])) : RV (rIxL K) (.ref a) (.int 0) H (.int u) := rv_ixL (sq_of h) rfl
theorem ix1 {K : PySem.W.Frag} {H : Hp} {a : Addr} {u v : Int} (h : H a = some (.lst [.int u, .int v])) : RV (rIxL K) (.ref a) (.int 1) H (.int v) := rv_ixL (sq_of h) rfl
theorem prime_at (i : Int) (h0 : 0 ≤ i) (h7 : i < 7) : ∃ p : Int, atI ([.int 48271, .int 10007, .int 69997, .int 30011, .int 90001, .int 20011, .int 50021] : List V) i = some (.int p) ∧ 0 ≤ p ∧ p < 100000 := by
  have : i = 0 ∨ i = 1 ∨ i = 2 ∨ i = 3 ∨ i = 4 ∨ i = 5 ∨ i = 6 := by omega
  rcases this with rfl | rfl | rfl | rfl | rfl | rfl | rfl
  · exact ⟨48271, rfl, by decide, by decide⟩
  · exact ⟨10007, rfl, by decide, by decide⟩
  · exact ⟨69997, rfl, by decide, by decide⟩
  · exact ⟨30011, rfl, by decide, by decide⟩
  · exact ⟨90001, rfl, by decide, by decide⟩
  · exact ⟨20011, rfl, by decide, by decide⟩
  · exact ⟨50021, rfl, by decide, by decide⟩
theorem scDraw : FnScope ["_law_source_here", "_law_many", "_law_found", "_law_place", "_law_primes", "_law_mixed"] ["_law_source_here", "_law_many"] (defScope s_draw) := ⟨rfl, rfl, rfl, by decide +kernel, rfl, by decide +kernel, by decide +kernel⟩
theorem ok_draw (L : Lb mg) (D : Dat K mg "_law_draw" s_draw ["_law_source_here", "_law_many"] f fd) : FnOk P w K mg base (L2.CX P w) 1 f fd ["_law_source_here", "_law_many"] spDraw := by
  refine D.F.okX scDraw (fun vs H Q E h => ?_) (fun cdv A outer s H vs Q E hr h => ?_)
  · obtain ⟨a, m, n, rfl, _⟩ := h
    rfl
  · obtain ⟨a, m, n, rfl, ⟨u, v, ha, v1, v2⟩, hn, hm, k⟩ := h
    have S0 : ∀ H2, Ex H H2 → Src H2 a (n + 1) := fun H2 e => ⟨u, v, e _ _ ha, v1, by omega⟩
    refine ⟨_, pss_cons (ps_if (PW.pt (pw_or (pt_cmpR op_lt (pv 1) pe_int (nomark _)) (pw_or1 (pt_cmpR op_eq (pe_ix ix_list (pv 0) pe_int (fun _ _ => rfl)) pe_int (nomark _))))) (pss_one (ps_ret pe_int)) pss_nil)
      (pss_cons (ps_if (pt_cmpR op_lt (pe_ix ix_list (pv 0) pe_int (fun _ _ => rfl)) pe_int (nomark _))
        (pss_cons (ps_set (i := 2) scDraw.nd rfl (Or.inl rfl) (pe_op op_mod (pe_callTy call_int1 rfl L.int PyProof.Rows.boot_int (pa_cons (pe_ix ix_list (pv 0) pe_int (fun _ _ => rfl)) pa_nil)) (pv 1)))
          (pss_cons (ps_asg (pe_op op_fdiv (pe_ix ix_list (pv 0) pe_int (fun _ _ => rfl)) (pv 1)) (pg_sub (pv 0) pe_int set_list)) (pss_one (ps_ret (pv 2))))) pss_nil)
      (pss_cons (ps_asg (pe_op op_add (pe_ix ix_list (pv 0) pe_int (fun _ _ => rfl)) pe_int) (pg_sub (pv 0) pe_int set_list))
      (pss_cons (ps_set (i := 3) scDraw.nd rfl (Or.inl rfl) (pe_ix ix_list (pv 0) pe_int (fun _ _ => rfl)))
      (pss_cons (ps_set (i := 4) scDraw.nd rfl (Or.inl rfl) (pe_lst (pa_cons pe_int (pa_cons pe_int (pa_cons pe_int (pa_cons pe_int (pa_cons pe_int (pa_cons pe_int (pa_cons pe_int pa_nil)))))))))
      (pss_cons (ps_set (i := 5) scDraw.nd rfl (Or.inl rfl) (pe_op op_mod (pe_callTy call_int1 rfl L.int PyProof.Rows.boot_int (pa_cons (pe_op op_add (pe_op op_mul (pe_ix ix_list (pv 0) pe_int (fun _ _ => rfl)) (pe_ix ix_list (pv 4) (pe_op op_mod (pe_callTy call_int1 rfl L.int PyProof.Rows.boot_int (pa_cons (pv 3) pa_nil)) pe_int) (fun _ _ => rfl)))
          (pe_op op_mul (pe_op op_mul (pv 3) (pv 3)) pe_int)) pa_nil)) pe_int))
      (pss_cons (ps_set (i := 5) scDraw.nd rfl (Or.inl rfl) (pe_op op_mod (pe_callTy call_int1 rfl L.int PyProof.Rows.boot_int (pa_cons (pe_op op_add (pe_op op_mul (pv 5) (pv 5)) (pe_op op_mul (pv 3) pe_int)) pa_nil)) pe_int))
      (pss_one (ps_ret (pe_op op_mod (pe_callTy call_int1 rfl L.int PyProof.Rows.boot_int (pa_cons (pv 5) pa_nil)) (pv 1)))))))))), ?_⟩
    refine q_when (et_or (a := decide (m < 2)) (b := decide (V.int u = V.int 0)) (et_test (ev_op (ev_var rfl) ev_c rv_I0)) fun _ => et_test (ev_op (ev_op (ev_var rfl) ev_c (ix0 ha)) ev_c (rv_eq rfl))) (fun hb H1 e => ?_) fun hb H1 e => ?_
    · exact s_ret ev_c fun H2 e2 => k 0 H2 (by decide) (.inr rfl) (.of (e.trans e2)) (S0 H2 (e.trans e2))
    rw [Bool.or_eq_false_iff] at hb
    have m2 : 2 ≤ m := by have := of_decide_eq_false hb.1; omega
    have ha1 := e _ _ ha
    refine q_when (et_test (ev_op (ev_op (ev_var rfl) ev_c (ix1 ha1)) ev_c rv_I0)) (fun hc H2 e2 => ?_) fun hc H2 e2 => ?_
    · have ha2 := e2 _ _ ha1
      refine q_asg (ev_op (ev_int (ev_op (ev_var rfl) ev_c (ix0 ha2))) (ev_var rfl) (rv_I (show (0 : Int) < m by omega))) fun H3 e3 => ?_
      have ha3 := e3 _ _ ha2
      refine q_setL (j := 0) ha3 (ev_op (ev_op (ev_var rfl) ev_c (ix0 ha3)) (ev_var rfl) (rv_I ⟨by omega, by omega⟩)) (ev_var rfl) ev_c (by show 0 < 2; decide) fun H4 e4 => ?_
      refine s_ret (ev_var rfl) fun H5 e5 => k (u % m) H5 (Int.emod_nonneg _ (by omega)) (.inl (Int.emod_lt_of_pos _ (by omega))) ?_ ?_
      · exact ((ExB.of (((e.trans e2).trans e3).trans e4)).trans .upd).trans (.of e5)
      · exact ⟨u / m, v, e5 _ _ upd_same, v1, by omega⟩
    · have v0 : 0 ≤ v := by have := of_decide_eq_false hc; omega
      have ha2 := e2 _ _ ha1
      refine q_setL (j := 1) ha2 (ev_op (ev_op (ev_var rfl) ev_c (ix1 ha2)) ev_c rv_I0) (ev_var rfl) ev_c (by show 1 < 2; decide) fun H3 e3 => ?_
      have hb3 : (upd H3 a (.lst [.int u, .int (v + 1)])) a = some (.lst [.int u, .int (v + 1)]) := upd_same
      have B3 : ExB a H (upd H3 a (.lst [.int u, .int (v + 1)])) := (ExB.of ((e.trans e2).trans e3)).trans .upd
      show tSeq _ _ _ _ (upd H3 a (.lst [.int u, .int (v + 1)]))
      generalize upd H3 a (.lst [.int u, .int (v + 1)]) = G3 at hb3 B3
      refine q_asg (ev_op (ev_var rfl) ev_c (ix1 hb3)) fun H4 e4 => ?_
      refine q_asgL (el_lst (vs := [.int 48271, .int 10007, .int 69997, .int 30011, .int 90001, .int 20011, .int 50021]) (ea_cons ev_c (ea_cons ev_c (ea_cons ev_c (ea_cons ev_c (ea_cons ev_c (ea_cons ev_c (ea_cons ev_c ea_nil))))))) (by show 7 ≤ 100000; decide)) fun p H5 _ e5 h5 => ?_
      have ha5 := e5 _ _ (e4 _ _ hb3)
      obtain ⟨z, hz, z0, z1⟩ := prime_at ((v + 1) % 7) (Int.emod_nonneg _ (by decide)) (Int.emod_lt_of_pos _ (by decide))
      refine q_asg (ev_op (ev_int (ev_op (ev_op (ev_op (ev_var rfl) ev_c (ix0 ha5)) (ev_op (ev_var rfl) (ev_op (ev_int (ev_var rfl)) ev_c (rv_I (by decide))) (rv_ixL (sq_of h5) hz)) (rv_I (.inr ⟨by omega, by omega⟩)))
        (ev_op (ev_op (ev_var rfl) (ev_var rfl) (rv_I (.inl ⟨by omega, by omega⟩))) ev_c (rv_I (.inr ⟨by decide, by decide⟩))) rv_I0)) ev_c (rv_I (by decide))) fun H6 e6 => ?_
      generalize hx : (u * z + (v + 1) * (v + 1) * 7919) % 2147483647 = x
      have x0 : 0 ≤ x := by rw [← hx]; exact Int.emod_nonneg _ (by decide)
      have x1 : x < 2147483647 := by rw [← hx]; exact Int.emod_lt_of_pos _ (by decide)
      refine q_asg (ev_op (ev_int (ev_op (ev_op (ev_var rfl) (ev_var rfl) (rv_I (.inl ⟨by omega, by omega⟩))) (ev_op (ev_var rfl) ev_c (rv_I (.inr ⟨by decide, by decide⟩))) rv_I0)) ev_c (rv_I (by decide))) fun H7 e7 => ?_
      refine s_ret (ev_op (ev_int (ev_var rfl)) (ev_var rfl) (rv_I (show (0 : Int) < m by omega))) fun H8 e8 => k _ H8 (Int.emod_nonneg _ (by omega)) (.inl (Int.emod_lt_of_pos _ (by omega))) (B3.trans (.of ((((e4.trans e5).trans e6).trans e7).trans e8))) ?_
      exact ⟨u, v + 1, e8 _ _ (e7 _ _ (e6 _ _ ha5)), by omega, by omega⟩
end

/-- te draws k times at most from the pair at a and gives a value of R; G: what stays -/
def EvD (te : TE) (σ : L2.St) (G : Hp) (a : Addr) (k : Nat) (R : V → Prop) : Prop := ∀ n H1, Ex G H1 → Src H1 a n → n + k ≤ 2 ^ 40 → ∀ Q : VK, (∀ v H2, R v → Ex G H2 → ExB a H1 H2 → Src H2 a (n + k) → Q v H2) → te σ H1 Q
def EvTD (tt : TT) (σ : L2.St) (G : Hp) (a : Addr) (k : Nat) (R : Bool → Prop) : Prop := ∀ n H1, Ex G H1 → Src H1 a n → n + k ≤ 2 ^ 40 → ∀ Q : Bool → Hp → Prop, (∀ b H2, R b → Ex G H2 → ExB a H1 H2 → Src H2 a (n + k) → Q b H2) → tt σ H1 Q
section
variable {K : PySem.W.Frag} {σ : L2.St} {G : Hp} {a : Addr} {k k1 k2 : Nat} {R R1 R2' : V → Prop} {ta tb te : TE} {D : Ends} {tz tu tw : TS} {tt : TT}
theorem ed_of {v : V} (h : Ev te σ G v) : EvD te σ G a 0 (fun u => u = v) := fun n H1 e s hn Q q => h H1 e Q fun H2 e2 => q v H2 rfl (e.trans e2) (.of e2) (s.mono e2)
theorem EvD.imp (h : EvD te σ G a k R1) (i : ∀ v, R1 v → R v) : EvD te σ G a k R := fun n H1 e s hn Q q => h n H1 e s hn Q fun v H2 r => q v H2 (i v r)
theorem EvD.more (h : EvD te σ G a k1 R) (hk : k1 ≤ k) : EvD te σ G a k R := fun n H1 e s hn Q q => h n H1 e s (by omega) Q fun v H2 r e2 b2 s2 => q v H2 r e2 b2 (s2.more (by omega))
theorem ed_op {r : R2} (ha : EvD ta σ G a k1 R1) (hb : ∀ x, R1 x → EvD tb σ G a k2 R2') (hr : ∀ x y, R1 x → R2' y → ∃ z, R z ∧ RV r x y G z) : EvD (tOp r ta tb) σ G a (k1 + k2) R := fun n H1 e s hn Q q =>
  ha n H1 e s (by omega) _ fun x H2 rx e2 b2 s2 => hb x rx (n + k1) H2 e2 s2 (by omega) _ fun y H3 ry e3 b3 s3 => by
    obtain ⟨z, rz, h⟩ := hr x y rx ry
    exact h H3 e3 Q fun H4 e4 => q z H4 rz (e3.trans e4) ((b2.trans b3).trans (.of e4)) (by rw [← Nat.add_assoc]; exact s3.mono e4)
theorem etd_test {Rb : Bool → Prop} (h : EvD te σ G a k (fun v => ∃ b, v = .bl b ∧ Rb b)) : EvTD (tTest te) σ G a k Rb := fun n H1 e s hn Q q => h n H1 e s hn _ fun v H2 r e2 b2 s2 => by
  obtain ⟨b, rfl, rb⟩ := r
  exact ⟨b, rfl, q b H2 rb e2 b2 s2⟩
/-- a def that draws -/
theorem ed_call {sp : Sp} {vs : List V} {E : XK} {tA : TA} (h : EvA tA σ G vs) (hs : ∀ n H1, Ex G H1 → Src H1 a n → n + k ≤ 2 ^ 40 → ∀ Q : VK, (∀ v H2, R v → ExB a H1 H2 → Src H2 a (n + k) → Q v H2) → ∀ E, sp vs H1 Q E) (na : G a = none) : EvD (tCall sp [] E tA) σ G a k R := fun n H1 e s hn Q q =>
  h H1 e _ fun H2 e2 => by
    rw [List.append_nil]
    exact hs n H2 (e.trans e2) (s.mono e2) hn Q (fun v H3 r b3 s3 => q v H3 r (b3.base (e.trans e2) na) ((ExB.of e2).trans b3) s3) E
/-- a draw -/
def Rdraw (m : Int) (v : V) : Prop := ∃ r : Int, v = .int r ∧ 0 ≤ r ∧ (r < m ∨ r = 0)
theorem ed_draw {i : Nat} {m : Int} {E : XK} (hs : σ[i]? = some (some (.ref a))) (h : Ev te σ G (.int m)) (hm : m < 2 ^ 29) (na : G a = none) : EvD (tCall spDraw [] E (tCons (tVar i) (tCons te tNil))) σ G a 1 (Rdraw m) :=
  ed_call (ea_cons (ev_var hs) (ea_cons h ea_nil)) (fun n H1 e s hn Q q E => ⟨a, m, n, rfl, s, by omega, hm, fun r H2 r0 r1 b2 s2 => q _ H2 ⟨r, rfl, r0, r1⟩ b2 s2⟩) na
theorem q_asgD {i n : Nat} {H1 : Hp} (h : EvD te σ G a k R) (e : Ex G H1) (s : Src H1 a n) (hn : n + k ≤ 2 ^ 40) (q : ∀ v H2, R v → Ex G H2 → ExB a H1 H2 → Src H2 a (n + k) → tz D (σ.set i (some v)) H2) : tSeq (tAsg te (gName i)) tz D σ H1 := h n H1 e s hn _ fun v H2 r e2 b2 s2 => q v H2 r e2 b2 s2
theorem s_asgD {i n : Nat} {H1 : Hp} (h : EvD te σ G a k R) (e : Ex G H1) (s : Src H1 a n) (hn : n + k ≤ 2 ^ 40) (q : ∀ v H2, R v → Ex G H2 → ExB a H1 H2 → Src H2 a (n + k) → D.nx (σ.set i (some v)) H2) : tAsg te (gName i) D σ H1 := h n H1 e s hn _ fun v H2 r e2 b2 s2 => q v H2 r e2 b2 s2
theorem s_retD {n : Nat} {H1 : Hp} (h : EvD te σ G a k R) (e : Ex G H1) (s : Src H1 a n) (hn : n + k ≤ 2 ^ 40) (q : ∀ v H2, R v → Ex G H2 → ExB a H1 H2 → Src H2 a (n + k) → D.rt v H2) : tRet te D σ H1 := h n H1 e s hn _ fun v H2 r e2 b2 s2 => q v H2 r e2 b2 s2
theorem q_whenD {n : Nat} {H1 : Hp} {Rb : Bool → Prop} (h : EvTD tt σ G a k Rb) (e : Ex G H1) (s : Src H1 a n) (hn : n + k ≤ 2 ^ 40) (h1 : ∀ H2, Rb true → Ex G H2 → ExB a H1 H2 → Src H2 a (n + k) → tu { D with nx := tz D } σ H2)
    (h2 : ∀ H2, Rb false → Ex G H2 → ExB a H1 H2 → Src H2 a (n + k) → tz D σ H2) : tSeq (tIfS tt tu tNext) tz D σ H1 := h n H1 e s hn _ fun b H2 r e2 b2 s2 => by
  cases b with
  | true => exact h1 H2 r e2 b2 s2
  | false => exact h2 H2 r e2 b2 s2
end
/-- the ground of a heap: all but a -/
def off (H : Hp) (a : Addr) : Hp := fun b => if b = a then none else H b
theorem off_none {H : Hp} {a : Addr} : off H a a = none := if_pos rfl
theorem off_ex {H : Hp} {a : Addr} : Ex (off H a) H := fun b o z => by
  unfold off at z
  split at z
  · cases z
  · exact z
theorem off_b {H H' : Hp} {a : Addr} (e : Ex (off H a) H') : ExB a H H' := fun b o n z => e b o (by unfold off; rw [if_neg n]; exact z)
theorem off_at {H : Hp} {a b : Addr} {o : HO} (n : b ≠ a) (h : H b = some o) : off H a b = some o := by
  unfold off; rw [if_neg n]; exact h
section
variable {P : Program} {w : World} {K : PySem.W.Frag} {mg : PySem.Str → Option Value} {base : Heap} {f f1 f2 : Addr} {fd fd1 fd2 : FuncData}
/-- a def that draws k times at most from the pair it is handed, with further values ws -/
def spD (ws : List V) (k : Nat) (R : V → Prop) (vs : List V) (H : Hp) (Q : VK) : Prop := ∃ (a : Addr) (n : Nat), vs = .ref a :: ws ∧ Src H a n ∧ n + k ≤ 2 ^ 40 ∧ ∀ v H2, R v → ExB a H H2 → Src H2 a (n + k) → Q v H2
def Rsize (m : Int) (v : V) : Prop := ∃ r : Int, v = .int r ∧ 1 ≤ r ∧ r ≤ m
def spSize : Sp := fun vs H Q _ => ∃ u m : Int, 1 ≤ u ∧ u ≤ m ∧ m < 2 ^ 29 ∧ spD [.int u, .int m] 2 (Rsize m) vs H Q
theorem scSize : FnScope ["_law_source_here", "_law_usual", "_law_most"] ["_law_source_here", "_law_usual", "_law_most"] (defScope s_size) := ⟨rfl, rfl, rfl, by decide +kernel, rfl, by decide +kernel, by decide +kernel⟩
theorem ok_size (D : Dat K mg "_law_size" s_size ["_law_source_here", "_law_usual", "_law_most"] f fd) (D1 : Dat K mg "_law_draw" s_draw ["_law_source_here", "_law_many"] f1 fd1) (G1 : FnOk P w K mg base (L2.CX P w) 1 f1 fd1 ["_law_source_here", "_law_many"] spDraw) :
    FnOk P w K mg base (L2.CX P w) 2 f fd ["_law_source_here", "_law_usual", "_law_most"] spSize := by
  refine D.F.okX scSize (fun vs H Q E h => ?_) (fun cdv A outer s H vs Q E hr h => ?_)
  · obtain ⟨u, m, _, _, _, a, n, rfl, _⟩ := h
    rfl
  · obtain ⟨u, m, hu, hum, hm, a, n, rfl, hs, hn, q⟩ := h
    refine ⟨_, pss_cons (ps_if (pt_cmpR op_eq (pe_call G1 hr rfl D1.g D1.k D1.b .nil pas0 (pa_cons (pv 0) (pa_cons pe_int pa_nil))) pe_int (nomark _)) (pss_one (ps_ret (pe_op op_add pe_int (pe_call G1 hr rfl D1.g D1.k D1.b .nil pas0 (pa_cons (pv 0) (pa_cons (pv 2) pa_nil)))))) pss_nil)
      (pss_one (ps_ret (pe_op op_add pe_int (pe_call G1 hr rfl D1.g D1.k D1.b .nil pas0 (pa_cons (pv 0) (pa_cons (pv 1) pa_nil)))))), ?_⟩
    have na : off H a a = none := off_none
    have plus : ∀ (c : Int) (j : Nat), 1 ≤ c → c ≤ m → (start ["_law_source_here", "_law_usual", "_law_most"] [.ref a, .int u, .int m])[j]? = some (some (.int c)) → EvD (tOp (rI0 fun i j => .int (i + j)) (tC (.int 1)) (tCall spDraw [] E0 (tCons (tVar 0) (tCons (tVar j) tNil)))) (start ["_law_source_here", "_law_usual", "_law_most"] [.ref a, .int u, .int m]) (off H a) a (0 + 1) (Rsize m) := fun c j c1 c2 hj =>
      ed_op (ed_of ev_c) (fun _ _ => ed_draw rfl (ev_var hj) (by omega) na) fun x y rx ⟨r, ry, r0, r1⟩ => by
        subst rx ry
        exact ⟨_, ⟨1 + r, rfl, by omega, by omega⟩, rv_I0⟩
    refine q_whenD (G := off H a) (a := a) (k := 1) (n := n) (Rb := fun _ => True) (etd_test (ed_op (k1 := 1) (k2 := 0) (ed_draw rfl ev_c (by decide) na) (fun _ _ => ed_of ev_c) fun x y rx ry => ?_)) off_ex hs (by omega) (fun H2 _ e2 b2 s2 => ?_) fun H2 _ e2 b2 s2 => ?_
    · obtain ⟨r, rfl, _⟩ := rx
      subst ry
      exact ⟨_, ⟨_, rfl, trivial⟩, rv_eq rfl⟩
    · exact s_retD (plus m 2 (by omega) (by omega) rfl) e2 s2 (by omega) fun v H3 r e3 b3 s3 => q v H3 r (b2.trans b3) s3
    · exact s_retD (plus u 1 hu hum rfl) e2 s2 (by omega) fun v H3 r e3 b3 s3 => q v H3 r (b2.trans b3) s3
end

/-! of Z11 -/
open PySem PySem.Spec PyProof.Rows L2 PySem.Froz Evl TS

theorem Ris.mono {T : List Nat} (R : Ris T) : ∀ {i j : Nat}, i ≤ j → j < T.length → T.getD i 0 ≤ T.getD j 0
  | i, 0, h, _ => by
    have : i = 0 := by omega
    subst this; exact Nat.le_refl _
  | i, j + 1, h, hj => by
    rcases Nat.lt_or_ge i (j + 1) with h1 | h1
    · exact Nat.le_trans (Ris.mono R (i := i) (j := j) (by omega) (by omega)) (R.up j hj)
    · have : i = j + 1 := by omega
      subst this; exact Nat.le_refl _
/-- the last place with at most c -/
theorem back_eq {T : List Nat} {c b : Nat} (g : Grd T) (hb : b < T.length) (h1 : T.getD b 0 ≤ c) (h2 : ∀ d, d < T.length → T.getD d 0 ≤ c → d ≤ b) : thr T (c + 1) - 1 = b := by
  have below : ∀ j, j < b + 1 → T.getD j 0 < c + 1 := fun j hj => by
    have := g.ris.mono (i := j) (j := b) (by omega) hb
    omega
  rcases Nat.lt_or_ge (b + 1) T.length with h | h
  · rw [thr_at (k := b + 1) h below ?_]
    · rfl
    · rcases Nat.lt_or_ge c (T.getD (b + 1) 0) with z | z
      · exact z
      · have := h2 (b + 1) h z
        omega
  · rw [thr_end fun j hj => below j (by omega)]
    omega
theorem nv_snoc (ns : List Nat) (k : Nat) : nv (ns ++ [k]) = nv ns ++ [V.int (k : Int)] := by simp [nv]
theorem range_snoc {g : Nat → Nat} {i : Nat} : (List.range (i + 1)).map g = (List.range i).map g ++ [g i] := by rw [List.range_succ, List.map_append]; rfl
section
variable {P : Program} {w : World} {K : PySem.W.Frag} {mg : PySem.Str → Option Value} {base : Heap} {f f1 f2 : Addr} {fd fd1 fd2 : FuncData}
theorem ei_lenN {σ : L2.St} {H : Hp} {te : TE} {a : Addr} {ns : List Nat} (h : Ev te σ H (.ref a)) (hx : SqL K H a (nv ns)) (hz : ns.length ≤ 3000) : EvI (iRng1 (tCons (tCB (rLenS K) (tCons te tNil)) tNil)) σ H (nums 0 ns.length) := by
  have z := ei_rng1 (ea_lenL (K := K) (n := (ns.length : Int)) h hx (by simp)) (by omega) (by omega)
  rwa [Int.toNat_natCast] at z
/-! ### _law_back -/
/-! ### _law_is_integer, _law_same_steps -/
theorem bt_int : bootBuiltins "int" = some (.type "int") := by decide +kernel
theorem bt_bool : bootBuiltins "bool" = some (.type "bool") := by decide +kernel
theorem bt_list : bootBuiltins "list" = some (.type "list") := by decide +kernel
theorem ty_list {H : Hp} {a : Addr} {xs : List V} (h : SqL K H a xs) : TyX K H (.ref a) (.type "list") := by
  rcases h with (h | ⟨o, h⟩) | ⟨o, its, n, h, hc, _⟩
  · exact .base (.lst h)
  · exact .base (.frz h)
  · exact .kList h hc
theorem ty_int {H : Hp} {i : Int} : TyX K H (.int i) (.type "int") := .base (.int i)
theorem ev_isi {σ : L2.St} {H : Hp} {ta tb : TE} {x c : V} {t u : Value} {b : Bool} (ha : Ev ta σ H x) (hb : Ev tb σ H c) (k : ClsV c u) (ty : ∀ H1, Ex H H1 → TyX K H1 x t) (e : PySem.W.kitOne K t u = some b) : Ev (tCB (rIsi K) (tCons ta (tCons tb tNil))) σ H (.bl b) := fun H1 e1 Q q =>
  ha H1 e1 _ fun H2 e2 => hb H2 (e1.trans e2) _ fun H3 e3 => ⟨x, c, t, u, b, rfl, k, ty H3 ((e1.trans e2).trans e3), e, q H3 (e2.trans e3)⟩
abbrev s_isint : Stmt := top 61
def spIsInt : Sp := fun vs H Q _ => ∃ i : Int, vs = [.int i] ∧ RetV (.bl true) H Q
theorem scIsInt : FnScope ["_law_actual"] ["_law_actual"] (defScope s_isint) := ⟨rfl, rfl, rfl, by decide +kernel, rfl, by decide +kernel, by decide +kernel⟩
theorem ok_isint (L : Lb mg) (D : Dat K mg "_law_is_integer" s_isint ["_law_actual"] f fd) : FnOk P w K mg base (L2.CX P w) 1 f fd ["_law_actual"] spIsInt := by
  refine D.F.okX scIsInt (fun vs H Q E h => ?_) (fun cdv A outer s H vs Q E hr h => ?_)
  · obtain ⟨i, rfl, _⟩ := h
    rfl
  · obtain ⟨i, rfl, k⟩ := h
    refine ⟨_, pss_one (ps_ret (pe_and (pe_callB call_isi (by rfl) L.isi boot_isinstance (pa_cons (pv 0) (pa_cons (pe_bltn (v := .ty "int") rfl L.int bt_int rfl) pa_nil))) (pe_one (pe_not (pe_callB call_isi (by rfl) L.isi boot_isinstance (pa_cons (pv 0) (pa_cons (pe_bltn (v := .ty "bool") rfl L.bool bt_bool rfl) pa_nil))))))), ?_⟩
    refine s_ret (v := .bl true) (ev_is (ev_andV (a := true) (b := true) (ev_isi (K := K) (ev_var rfl) ev_c (.ty "int") (fun H1 e => ty_int) (kit_ty (r := true) (by decide +kernel))) fun _ => ev_is (ev_notV (a := false) (ev_isi (K := K) (ev_var rfl) ev_c (.ty "bool") (fun H1 e => ty_int) (kit_ty (r := false) (by decide +kernel)))) rfl) rfl) fun H1 e => k H1 e
end

/-! of Z12 -/
open PySem PySem.Spec PyProof.Rows L2 PySem.Froz Evl TS

theorem range_at {g : Nat → Nat} {n c : Nat} (h : c < n) : ((List.range n).map g).getD c 0 = g c := by simp [List.getD_eq_getElem?_getD, h]
section
variable {P : Program} {w : World} {K : PySem.W.Frag} {mg : PySem.Str → Option Value} {base : Heap} {f f1 f2 : Addr} {fd fd1 fd2 : FuncData}
theorem sv_isint {i : Int} {H : Hp} : SpV spIsInt [.int i] H (.bl true) := fun H1 e Q q E => ⟨i, rfl, fun H2 e2 => q H2 e2⟩
/-! ### _law_same_steps -/
abbrev s_same : Stmt := top 62
abbrev nSame : List PySem.Str := ["_law_actual", "_law_due", "_law_k"]
def spSame (K : PySem.W.Frag) : Sp := fun vs H Q _ => ∃ (a b : Addr) (U : List Nat), vs = [.ref a, .ref b] ∧ SqL K H a (nv U) ∧ SqL K H b (nv U) ∧ U.length ≤ 1000 ∧ RetV (.bl true) H Q
theorem scSame : FnScope nSame ["_law_actual", "_law_due"] (defScope s_same) := ⟨rfl, rfl, rfl, by decide +kernel, rfl, by decide +kernel, by decide +kernel⟩
theorem ok_same (W : Wd mg) (L : Lb mg) (D : Dat K mg "_law_same_steps" s_same ["_law_actual", "_law_due"] f fd) (D1 : Dat K mg "_law_is_integer" s_isint ["_law_actual"] f1 fd1) (G1 : FnOk P w K mg base (L2.CX P w) 1 f1 fd1 ["_law_actual"] spIsInt) : FnOk P w K mg base (L2.CX P w) 2 f fd ["_law_actual", "_law_due"] (spSame K) := by
  refine D.F.okX scSame (fun vs H Q E h => ?_) (fun cdv A outer s H vs Q E hr h => ?_)
  · obtain ⟨a, b, U, rfl, _⟩ := h
    rfl
  · obtain ⟨a, b, U, rfl, hA, hB, hz, q⟩ := h
    refine ⟨_, pss_cons (ps_if (PW.pt (pw_or (pt_not (pt_val (pe_callB call_isi (by rfl) L.isi boot_isinstance (pa_cons (pv 0) (pa_cons (pe_bltn (v := .ty "list") rfl L.list bt_list rfl) pa_nil))))) (pw_or1 (pt_cmpR op_ne (pe_callB call_len_seq (by rfl) W.len PySem.boot_len (pa_cons (pv 0) pa_nil)) (pe_callB call_len_seq (by rfl) W.len PySem.boot_len (pa_cons (pv 1) pa_nil)) (nomark _))))) (pss_one (ps_ret pe_bl)) pss_nil)
      (pss_cons (ps_for (passes_of rfl) rfl (pi_range1 rfl W.range (pa_cons (pe_callB call_len_seq (by rfl) W.len PySem.boot_len (pa_cons (pv 1) pa_nil)) pa_nil)) (pg_name (i := 2) scSame.nd rfl (Or.inl rfl))
        (pss_one (ps_if (PW.pt (pw_or (pt_not (pt_val (pe_call G1 hr rfl D1.g D1.k D1.b .nil pas0 (pa_cons (pe_ix ix_list (pv 0) (pv 2) (fun _ _ => rfl)) pa_nil)))) (pw_or1 (pt_cmpR op_ne (pe_ix ix_list (pv 0) (pv 2) (fun _ _ => rfl)) (pe_ix ix_list (pv 1) (pv 2) (fun _ _ => rfl)) (nomark _))))) (pss_one (ps_ret pe_bl)) pss_nil)))
      (pss_one (ps_ret pe_bl))), ?_⟩
    refine q_when (b := false) (et_is (et_or (a := false) (b := false) (et_is (et_not (et_B (ev_isi (K := K) (ev_var rfl) ev_c (.ty "list") (fun H1 e => ty_list (ex_l e hA)) (kit_ty (r := true) (by decide +kernel))))) rfl) fun _ => et_is (ev_neI (ev_lenN' (ns := U) (ev_var rfl) hA) (ev_lenN' (ns := U) (ev_var rfl) hB)) (by simp)) rfl) (fun z => Bool.noConfusion z) fun _ H1 e => ?_
    refine q_forI (H := H) (ei_lenN (ns := U) (ev_var rfl) hB (by omega)) e (fun G i σ' H' => ∃ v, σ' = [some (.ref a), some (.ref b), v]) (fun G H2 _ _ _ => ⟨none, rfl⟩) ?_ ?_
    · rintro G i y σ' H' eG eG' hy ⟨v, rfl⟩
      obtain ⟨hi, rfl⟩ := nums_at hy
      rw [Int.zero_add]
      have e0 : Ex H H' := eG.trans eG'
      have ea : ∀ (j : Nat) (p : Addr), ([some (.ref a), some (.ref b), some (V.int (i : Int))] : L2.St)[j]? = some (some (.ref p)) → SqL K H p (nv U) → Ev (tOp (rIxL K) (tVar j) (tVar 2)) [some (.ref a), some (.ref b), some (.int (i : Int))] H' (.int (U.getD i 0 : Nat)) := fun j p hj hp => ev_atN (ev_var hj) (ev_var rfl) (ex_l e0 hp) hi
      refine s_when (b := false) (et_is (et_or (a := false) (b := false) (et_is (et_not (et_B (ev_call (z := .bl true) (ea_cons (ea 0 a rfl hA) ea_nil) sv_isint))) rfl) fun _ => et_is (ev_neI (ea 0 a rfl hA) (ea 1 b rfl hB)) (by simp)) rfl) (fun z => Bool.noConfusion z) fun _ H2 e2 => ⟨eG'.trans e2, _, rfl⟩
    · rintro G σ' H' eG eG' ⟨v, rfl⟩
      exact s_ret ev_c fun H2 e2 => q H2 ((eG.trans eG').trans e2)
theorem sv_same {a b : Addr} {U : List Nat} {H : Hp} (ha : SqL K H a (nv U)) (hb : SqL K H b (nv U)) (hz : U.length ≤ 1000) : SpV (spSame K) [.ref a, .ref b] H (.bl true) := fun H1 e Q q E => ⟨a, b, U, rfl, ex_l e ha, ex_l e hb, hz, fun H2 e2 => q H2 e2⟩
/-! ### _law_rounds -/
end

/-! of Z13 -/
open PySem PySem.Spec PyProof.Rows L2 PySem.Froz Evl TS

/-! ### lists of numbers as data -/
def dN (U : List Nat) : PyData := .list (U.map fun (k : Nat) => PyData.int (k : Int))
theorem dps_nums {K : PySem.W.Frag} {H : Hp} : ∀ U : List Nat, DpAll K H (nv U) (U.map fun (k : Nat) => PyData.int (k : Int))
  | [] => .nil
  | k :: U => .cons (.int _) (dps_nums U)
theorem dp_nums {K : PySem.W.Frag} {H : Hp} {a : Addr} {U : List Nat} (h : SqL K H a (nv U)) : ∀ H1, Ex H H1 → Dp K H1 (.ref a) (dN U) := fun H1 e => .lst (ex_l e h) (dps_nums U)
theorem lay_nums : ∀ U : List Nat, PyData.canLayAll0 (U.map fun (k : Nat) => PyData.int (k : Int)) = true
  | [] => rfl
  | k :: U => by
    show (PyData.canLay0 (.int (k : Int)) && PyData.canLayAll0 (U.map fun (k : Nat) => PyData.int (k : Int))) = true
    rw [lay_nums U]; rfl
theorem depth_nums : ∀ U : List Nat, PyData.depthAll (U.map fun (k : Nat) => PyData.int (k : Int)) = 0
  | [] => by simp [PyData.depthAll]
  | k :: U => by
    have h := depth_nums U
    rw [List.map_cons, PyData.depthAll, h]
    simp [PyData.depth]
theorem shaped_nums (U : List Nat) : SeqAt.shaped (dN U) = true := by
  unfold SeqAt.shaped dN
  rw [Bool.and_eq_true]
  refine ⟨by simpa [PyData.canLay0] using lay_nums U, decide_eq_true ?_⟩
  show PyData.depthAll _ + 1 ≤ 64
  rw [depth_nums]
  decide
theorem eqvAll_nums : ∀ U V : List Nat, PyData.eqvAll (U.map fun (k : Nat) => PyData.int (k : Int)) (V.map fun (k : Nat) => PyData.int (k : Int)) = decide (U = V)
  | [], [] => by simp [PyData.eqvAll]
  | [], k :: V => by simp [PyData.eqvAll]
  | k :: U, [] => by simp [PyData.eqvAll]
  | k :: U, j :: V => by
    have ih := eqvAll_nums U V
    rw [List.map_cons, List.map_cons, PyData.eqvAll, ih]
    have e : PyData.eqv (.int (k : Int)) (.int (j : Int)) = decide (k = j) := by
      show ((k : Int) == (j : Int)) = _
      by_cases h : k = j
      · simp [h]
      · rw [decide_eq_false h]; simp [Int.ofNat_inj, h]
    rw [e]
    by_cases h1 : k = j <;> by_cases h2 : U = V <;> simp [h1, h2]
theorem eqv_nums (U V : List Nat) : PyData.eqv (dN U) (dN V) = decide (U = V) := by
  have h := eqvAll_nums U V
  unfold dN
  rw [PyData.eqv, h]
section
variable {K : PySem.W.Frag}
theorem rv_eqD {x y : V} {d e : PyData} {H : Hp} (hx : ∀ H1, Ex H H1 → Dp K H1 x d) (hy : ∀ H1, Ex H H1 → Dp K H1 y e) (sd : SeqAt.shaped d = true) (se : SeqAt.shaped e = true) : RV (rEqD K) x y H (.bl (PyData.eqv d e)) := fun H1 e1 Q q => ⟨d, e, hx H1 e1, hy H1 e1, sd, se, q H1 (Ex.refl H1)⟩
theorem rv_neD {x y : V} {d e : PyData} {H : Hp} (hx : ∀ H1, Ex H H1 → Dp K H1 x d) (hy : ∀ H1, Ex H H1 → Dp K H1 y e) (sd : SeqAt.shaped d = true) (se : SeqAt.shaped e = true) : RV (rNeD K) x y H (.bl (!PyData.eqv d e)) := fun H1 e1 Q q => ⟨d, e, hx H1 e1, hy H1 e1, sd, se, q H1 (Ex.refl H1)⟩
/-- a list of lists of numbers -/
theorem dp_rows {H : Hp} : ∀ {ys : List V} {W : List (List Nat)}, Rows H ys W → DpAll K H ys (W.map dN)
  | [], [], _ => .nil
  | [], _ :: _, h => by have := h.1; cases this
  | _ :: _, [], h => by have := h.1; cases this
  | y :: ys, U :: W, h => by
    obtain ⟨p, h1, h2⟩ := h.2 0 (by simp)
    have e : y = .ref p := by simpa using h1
    subst e
    refine .cons (.lst (sq_of h2) (dps_nums U)) (dp_rows ⟨by simpa using h.1, fun i hi => ?_⟩)
    obtain ⟨q, g1, g2⟩ := h.2 (i + 1) (by simpa using hi)
    exact ⟨q, by simpa using g1, by simpa using g2⟩
theorem lay_rows : ∀ W : List (List Nat), PyData.canLayAll0 (W.map dN) = true
  | [] => rfl
  | U :: W => by
    show (PyData.canLay0 (dN U) && PyData.canLayAll0 (W.map dN)) = true
    rw [lay_rows W, SeqAt.canLay_of_shaped (shaped_nums U)]; rfl
theorem depth_rows : ∀ W : List (List Nat), PyData.depthAll (W.map dN) ≤ 1
  | [] => by simp [PyData.depthAll]
  | U :: W => by
    have h := depth_rows W
    have e : (dN U).depth = 1 := by
      show PyData.depthAll _ + 1 = 1
      rw [depth_nums]
    rw [List.map_cons, PyData.depthAll, e]
    omega
theorem shaped_rows (W : List (List Nat)) : SeqAt.shaped (.list (W.map dN)) = true := by
  unfold SeqAt.shaped
  rw [Bool.and_eq_true]
  refine ⟨by simpa [PyData.canLay0] using lay_rows W, decide_eq_true ?_⟩
  show PyData.depthAll _ + 1 ≤ 64
  have := depth_rows W
  omega
theorem any_rows (U : List Nat) (W : List (List Nat)) : ((W.map dN).any fun z => PyData.eqv z (dN U)) = decide (U ∈ W) := by
  induction W with
  | nil => simp
  | cons V W ih =>
    rw [List.map_cons, List.any_cons, ih, eqv_nums]
    by_cases h : V = U
    · subst h; simp
    · have h' : ¬ U = V := fun z => h z.symm
      simp [h, h', List.mem_cons]
/-- x not in a list of lists -/
theorem rv_notInD {H : Hp} {x : V} {b : Addr} {U : List Nat} {ys : List V} {W : List (List Nat)} (hx : ∀ H1, Ex H H1 → Dp K H1 x (dN U)) (hb : SqL K H b ys) (hR : Rows H ys W) : RV (rNotInD K) x (.ref b) H (.bl (!decide (U ∈ W))) := fun H1 e1 Q q =>
  ⟨dN U, W.map dN, hx H1 e1, .lst (ex_l e1 hb) (dp_rows (hR.mono e1)), shaped_nums U, shaped_rows W, by rw [any_rows]; exact q H1 (Ex.refl H1)⟩
theorem inV_num (k : Nat) : ∀ ns : List Nat, inV (.int (k : Int)) (nv ns) = decide (k ∈ ns)
  | [] => rfl
  | j :: ns => by
    have ih := inV_num k ns
    unfold inV at ih ⊢
    rw [show nv (j :: ns) = V.int (j : Int) :: nv ns from rfl, List.any_cons, ih]
    have e : eqV (.int (j : Int)) (.int (k : Int)) = decide (j = k) := by
      show decide ((j : Int) = (k : Int)) = _
      exact decide_eq_decide.mpr Int.ofNat_inj
    rw [e]
    by_cases h : j = k
    · simp [h]
    · have h' : ¬ k = j := fun q => h q.symm
      simp [h, h', List.mem_cons]
theorem flat_nums (ns : List Nat) : (nv ns).all flatV = true := by
  rw [List.all_eq_true]
  intro v hv
  obtain ⟨k, _, rfl⟩ := List.mem_map.mp hv
  rfl
theorem ei_rng2 {σ : L2.St} {H : Hp} {ta : TA} {lo n : Nat} (h : EvA ta σ H [.int (lo : Int), .int (n : Int)]) (h1 : lo ≤ 100000) (h2 : n ≤ 100000) : EvI (iRng2 ta) σ H (nums (lo : Int) (n - lo)) := fun H1 e R q => h H1 e _ fun H2 e2 => by
  have z : ((n : Int) - (lo : Int)).toNat = n - lo := by omega
  refine ⟨(lo : Int), (n : Int), rfl, ⟨by omega, by omega, by omega, by omega⟩, ?_⟩
  rw [z]
  exact q _ H2 H e2 (Ex.refl H) (e.trans e2) (fun _ n _ => n) goes_r
theorem el_rev {σ : L2.St} {H : Hp} {te : TE} {a : Addr} {xs : List V} (h : Ev te σ H (.ref a)) (hx : SqL K H a xs) : EvL (tRevL K te) σ H xs.reverse := fun H1 e Q q => h H1 e _ fun H2 e2 => ⟨a, xs, rfl, ex_l (e.trans e2) hx, fun p hp => q p _ (fresh_back e2 hp) (e2.trans (Ex.new hp)) upd_same⟩
end
section
variable {P : Program} {w : World} {K : PySem.W.Frag} {mg : PySem.Str → Option Value} {base : Heap} {f f1 f2 : Addr} {fd fd1 fd2 : FuncData}
/-! ### _law_upward, _law_downward -/
end

/-! of Z14 -/
open PySem PySem.Spec PyProof.Rows L2 PySem.Froz Evl TS

theorem nat_range (S : List Nat) : (List.range S.length).map (fun i => S.getD i 0) = S := by
  apply List.ext_getElem
  · simp
  · intro i h1 h2
    simp [List.getD_eq_getElem?_getD, h2]
section
variable {P : Program} {w : World} {K : PySem.W.Frag} {mg : PySem.Str → Option Value} {base : Heap} {f f1 f2 : Addr} {fd fd1 fd2 : FuncData}
/-! ### _law_numbers -/
end

/-! of Z15 -/
open PySem PySem.Spec PyProof.Rows L2 PySem.Froz Evl TS

/-! ### lists with new lists in them -/
section
variable {P : Program} {w : World} {K : PySem.W.Frag} {σ : L2.St} {H H1 : Hp} {ta tb te : TE} {D : Ends} {tz : TS} {xs ys : List V} {i : Nat}
def EvW1 (te : TE) (σ : L2.St) (H : Hp) (xs : List V) : Prop := ∀ H1, Ex H H1 → ∀ Q : VK, (∀ p r H2, H1 p = none → H1 r = none → p ≠ r → Ex H1 H2 → H2 p = some (.lst [.ref r]) → H2 r = some (.lst xs) → Q (.ref p) H2) → te σ H1 Q
def EvW2 (te : TE) (σ : L2.St) (H : Hp) (xs ys : List V) : Prop := ∀ H1, Ex H H1 → ∀ Q : VK, (∀ p r t H2, H1 p = none → H1 r = none → H1 t = none → p ≠ r → p ≠ t → r ≠ t → Ex H1 H2 → H2 p = some (.lst [.ref r, .ref t]) → H2 r = some (.lst xs) → H2 t = some (.lst ys) → Q (.ref p) H2) → te σ H1 Q
theorem ne_new {H : Hp} {p q : Addr} {o : HO} (h : H q = some o) (n : H p = none) : p ≠ q := fun z => by rw [z, h] at n; cases n
theorem ew_one (h : EvL ta σ H xs) : EvW1 (tLst (tCons ta tNil)) σ H xs := fun H1 e Q q => h H1 e _ fun r H2 hr e2 h2 =>
  ⟨sz_of (by show 1 ≤ 100000; decide), fun p hp => q p r _ (fresh_back e2 hp) hr (ne_new h2 hp) (e2.trans (Ex.new hp)) upd_same (by rw [upd_ne (Ne.symm (ne_new h2 hp))]; exact h2)⟩
theorem ew_two (ha : EvL ta σ H xs) (hb : EvL tb σ H ys) : EvW2 (tLst (tCons ta (tCons tb tNil))) σ H xs ys := fun H1 e Q q => ha H1 e _ fun r H2 hr e2 h2 => hb H2 (e.trans e2) _ fun t H3 ht e3 h3 =>
  ⟨sz_of (by show 2 ≤ 100000; decide), fun p hp => by
    have h2' := e3 _ _ h2
    exact q p r t _ (fresh_back (e2.trans e3) hp) hr (fresh_back e2 ht) (ne_new h2' hp) (ne_new h3 hp) (Ne.symm (ne_new h2 ht)) ((e2.trans e3).trans (Ex.new hp)) upd_same (by rw [upd_ne (Ne.symm (ne_new h2' hp))]; exact h2') (by rw [upd_ne (Ne.symm (ne_new h3 hp))]; exact h3)⟩
theorem q_asg1 (h : EvW1 te σ H xs) (k : ∀ p r H2, H p = none → H r = none → p ≠ r → Ex H H2 → H2 p = some (.lst [.ref r]) → H2 r = some (.lst xs) → tz D (σ.set i (some (.ref p))) H2) : tSeq (tAsg te (gName i)) tz D σ H := h H (Ex.refl H) _ k
theorem q_asg2 (h : EvW2 te σ H xs ys) (k : ∀ p r t H2, H p = none → H r = none → H t = none → p ≠ r → p ≠ t → r ≠ t → Ex H H2 → H2 p = some (.lst [.ref r, .ref t]) → H2 r = some (.lst xs) → H2 t = some (.lst ys) → tz D (σ.set i (some (.ref p))) H2) : tSeq (tAsg te (gName i)) tz D σ H := h H (Ex.refl H) _ k
/-- if ..: v = .. -/
theorem q_ifset {t : TT} {b : Bool} {v0 v1 : V} (hb : EvT t σ H b) (h : b = true → ∀ H1, Ex H H1 → Ev te σ H1 v1) (hv : σ[i]? = some (some v0)) (h0 : b = false → v0 = v1) (k : ∀ H1, Ex H H1 → tz D (σ.set i (some v1)) H1) : tSeq (tIfS t (tAsg te (gName i)) tNext) tz D σ H :=
  q_when hb (fun z H1 e => s_asg (h z H1 e) fun H2 e2 => k H2 (e.trans e2)) fun z H1 e => by
    have y := k H1 e
    rw [← h0 z] at y
    have s : σ.set i (some v0) = σ := by
      obtain ⟨hi, g⟩ := List.getElem?_eq_some_iff.mp hv
      rw [← g]; exact List.set_getElem_self hi
    rwa [s] at y
/-- a list that stands + a new one -/
theorem el_catR {l : Addr} (ha : Ev ta σ H (.ref l)) (hl : H l = some (.lst xs)) (hb : EvL tb σ H ys) (hz : xs.length + ys.length ≤ 100000) : EvL (tOp rCat ta tb) σ H (xs ++ ys) := fun H1 e Q q =>
  ha H1 e _ fun H2 e2 => hb H2 (e.trans e2) _ fun b H3 hb2 e3 h3 => ⟨l, b, xs, ys, rfl, rfl, e3 _ _ (e2 _ _ (e _ _ hl)), h3, sz_of hz, fun p hp => q p _ (fresh_back (e2.trans e3) hp) ((e2.trans e3).trans (Ex.new hp)) upd_same⟩
end
/-- an object that no row is changes -/
theorem Rows.upd {H : Hp} {zs : List V} {W : List (List Nat)} {l : Addr} {o : HO} (h : Rows H zs W) (n : V.ref l ∉ zs) : Rows (upd H l o) zs W := ⟨h.1, fun i hi => by
  obtain ⟨p, a, b⟩ := h.2 i hi
  exact ⟨p, a, by rw [upd_ne (fun z => n (by rw [← z]; exact List.mem_of_getElem? a))]; exact b⟩⟩
theorem getLastD_at (R : List Nat) : R.getLastD 0 = R.getD (R.length - 1) 0 := by
  rw [List.getLastD_eq_getLast?, List.getLast?_eq_getElem?, List.getD_eq_getElem?_getD]
def stepR (n : Nat) (r : List Nat) : List (List Nat) := (List.range (n - r.getLastD 0)).map fun j => r ++ [r.getLastD 0 + j]
theorem longer_eq (n : Nat) (W : List (List Nat)) : longer n W = W.flatMap (stepR n) := rfl
def goodR (n : Nat) : Bool := (List.range (n + 1)).all fun k => decide ((risesK n k).length ≤ 200) && (risesK n k).all fun r => decide (r.getLastD 0 ≤ 5) && decide (r.length ≤ 5)
theorem rises_small (n : Nat) (h1 : 1 ≤ n) (h5 : n ≤ 5) : goodR n = true := by
  match n, h1, h5 with
  | 1, _, _ => decide +kernel
  | 2, _, _ => decide +kernel
  | 3, _, _ => decide +kernel
  | 4, _, _ => decide +kernel
  | 5, _, _ => decide +kernel
theorem small_at {n k : Nat} (h1 : 1 ≤ n) (h5 : n ≤ 5) (hk : k ≤ n) : (risesK n k).length ≤ 200 ∧ ∀ r ∈ risesK n k, r.getLastD 0 ≤ 5 ∧ r.length ≤ 5 := by
  have g := rises_small n h1 h5
  unfold goodR at g
  rw [List.all_eq_true] at g
  have z := g k (List.mem_range.mpr (by omega))
  rw [Bool.and_eq_true, List.all_eq_true] at z
  refine ⟨of_decide_eq_true z.1, fun r hr => ?_⟩
  have y := z.2 r hr
  rw [Bool.and_eq_true] at y
  exact ⟨of_decide_eq_true y.1, of_decide_eq_true y.2⟩
theorem flat_take {α β : Type} (W : List α) (g : α → List β) (i : Nat) : ((W.take i).flatMap g).length ≤ (W.flatMap g).length := by
  have e : W.flatMap g = (W.take i).flatMap g ++ (W.drop i).flatMap g := by rw [← List.flatMap_append, List.take_append_drop]
  rw [e, List.length_append]; omega
section
variable {P : Program} {w : World} {K : PySem.W.Frag} {mg : PySem.Str → Option Value} {base : Heap} {f f1 f2 : Addr} {fd fd1 fd2 : FuncData}
/-! ### _law_risings -/
abbrev s_ris : Stmt := top 60
abbrev nRs : List PySem.Str := ["_law_size_here", "_law_rows", "_law_k", "_law_longer", "_law_row", "_law_low", "_law_step"]
def RetR (W : List (List Nat)) (H : Hp) (Q : VK) : Prop := ∀ p ys H2, H p = none → Ex H H2 → H2 p = some (.lst ys) → Rows H2 ys W → Q (.ref p) H2
def spRs : Sp := fun vs H Q _ => ∃ n : Nat, vs = [.int (n : Int)] ∧ 1 ≤ n ∧ n ≤ 5 ∧ RetR (rises n) H Q
theorem scRs : FnScope nRs ["_law_size_here"] (defScope s_ris) := ⟨rfl, rfl, rfl, by decide +kernel, rfl, by decide +kernel, by decide +kernel⟩
theorem ok_risings (W : Wd mg) (D : Dat K mg "_law_risings" s_ris ["_law_size_here"] f fd) : FnOk P w K mg base (L2.CX P w) 1 f fd ["_law_size_here"] spRs := by
  refine D.F.okX scRs (fun vs H Q E h => ?_) (fun cdv A outer s H vs Q E hr h => ?_)
  · obtain ⟨n, rfl, _⟩ := h
    rfl
  · obtain ⟨n, rfl, n1, n5, k⟩ := h
    have hu := hr.units
    have hu1 : (A.deeper (envOfC "_law_risings" (defScope s_ris) s.heap.objs.size f cdv)).units + 64 < cLine := by omega
    refine ⟨_, pss_cons (ps_set (i := 1) scRs.nd rfl (Or.inl rfl) (pe_lst (pa_cons (pe_lst pa_nil) pa_nil)))
      (pss_cons (ps_for (passes_of rfl) rfl (pi_range1 rfl W.range (pa_cons (pv 0) pa_nil)) (pg_name (i := 2) scRs.nd rfl (Or.inl rfl))
        (pss_cons (ps_set (i := 3) scRs.nd rfl (Or.inl rfl) (pe_lst pa_nil))
        (pss_cons (ps_for (passes_of rfl) rfl (pi_list (pv 1)) (pg_name (i := 4) scRs.nd rfl (Or.inl rfl))
          (pss_cons (ps_set (i := 5) scRs.nd rfl (Or.inl rfl) pe_int)
          (pss_cons (ps_if (pt_cmpR (op_neD hu1) (pv 4) (pe_lst pa_nil) (nomark _)) (pss_one (ps_set (i := 5) scRs.nd rfl (Or.inl rfl) (pe_ix ix_list (pv 4) (pe_un un_neg pe_int) (fun _ _ => rfl)))) pss_nil)
          (pss_one (ps_for (passes_of rfl) rfl (pi_range2 rfl W.range (pa_cons (pv 5) (pa_cons (pv 0) pa_nil))) (pg_name (i := 6) scRs.nd rfl (Or.inl rfl))
            (pss_one (ps_expr (pe_bm PySem.F.plainAttrs_list PySem.F.slot_list_append PySem.F.type_list_append mt_append (pv 3) (pa_cons (pe_op op_cat (pv 4) (pe_lst (pa_cons (pv 6) pa_nil))) pa_nil)))))))))
        (pss_one (ps_set (i := 1) scRs.nd rfl (Or.inl rfl) (pe_callTy call_list_of rfl W.list PyProof.Rows.boot_list (pa_cons (pv 3) pa_nil)))))))
      (pss_one (ps_ret (pv 1)))), ?_⟩
    refine q_asg1 (ew_one (el_lst (vs := []) ea_nil (by decide))) fun p0 r0 H1 hp0 hr0 ne0 e1 h1 hr1 => ?_
    have R0 : Rows H1 [.ref r0] (risesK n 0) := ⟨rfl, fun i hi => by
      have : i = 0 := by simpa [risesK] using hi
      subst this
      exact ⟨r0, rfl, hr1⟩⟩
    refine q_forN (H := H1) (ei_rng1 (n := (n : Int)) (ea_cons (ev_var rfl) ea_nil) (by omega) (by omega)) (Ex.refl H1) (fun i σ' H' => (∃ (p : Addr) (ys : List V) (v2 v3 v4 v5 v6 : Option V), σ' = [some (.int (n : Int)), some (.ref p), v2, v3, v4, v5, v6] ∧ H' p = some (.lst ys) ∧ Rows H' ys (risesK n i) ∧ H p = none) ∧ Ex H1 H') (fun H2 e2 => ⟨⟨p0, _, none, none, none, none, none, rfl, e2 _ _ h1, R0.mono e2, hp0⟩, e2⟩) ?_ ?_
    · rintro G i y σ' H' eG nG eG' hy ⟨⟨p, ys, v2, v3, v4, v5, v6, rfl, hp, hR, hpn⟩, eH⟩
      obtain ⟨hi, rfl⟩ := nums_at hy
      rw [Int.toNat_natCast] at hi
      rw [Int.zero_add]
      obtain ⟨sm1, sm2⟩ := small_at n1 n5 (k := i) (by omega)
      obtain ⟨sm3, _⟩ := small_at n1 n5 (k := i + 1) (by omega)
      have sm3' : ((risesK n i).flatMap (stepR n)).length ≤ 200 := sm3
      generalize hW : risesK n i = W1 at hR sm1 sm2 sm3'
      refine q_asgL (el_lst (vs := []) ea_nil (by decide)) fun l Ha hl ea hla => ?_
      refine q_forN (H := H') (ei_list (K := K) (ev_var rfl) (sq_of hp)) ea (fun j σ3 H3 => (∃ (zs : List V) (v4 v5 v6 : Option V), σ3 = [some (.int (n : Int)), some (.ref p), some (.int (i : Int)), some (.ref l), v4, v5, v6] ∧ H3 l = some (.lst zs) ∧ V.ref l ∉ zs ∧ Rows H3 zs ((W1.take j).flatMap (stepR n))) ∧ Ex H' H3) (fun H3 e3 => ⟨⟨[], v4, v5, v6, rfl, e3 _ _ hla, by simp, by simpa using Rows.nil⟩, ea.trans e3⟩) ?_ ?_
      · rintro G2 j x σ3 H3 eG2 nG2 eG2' hx ⟨⟨zs, v4, v5, v6, rfl, hz, nz, hRz⟩, e3⟩
        have nGl : G2 l = none := nG2 l hl (by rw [hla]; exact fun z => nomatch z)
        have hj : j < W1.length := by rw [← hR.1]; exact (List.getElem?_eq_some_iff.mp hx).1
        obtain ⟨r, hr1, hr2⟩ := hR.2 j hj
        rw [hr1] at hx
        cases hx
        have tk := take_next hj
        generalize hR1 : W1.getD j [] = R at hr2 tk
        have hRm : R ∈ W1 := by rw [← hR1]; exact getD_mem hj
        obtain ⟨lo5, len5⟩ := sm2 R hRm
        have hr3 := e3 _ _ hr2
        have hlen := hRz.1
        have pre := flat_take W1 (stepR n) j
        have nonneg : R.getLastD 0 ≤ 100000 := by omega
        refine q_asg (v := .int ((0 : Nat) : Int)) ev_c fun H4 e4 => ?_
        have hr4 := e4 _ _ hr3
        refine q_ifset (i := 5) (v0 := .int ((0 : Nat) : Int)) (v1 := .int ((R.getLastD 0 : Nat) : Int)) (b := !decide (R = [])) (et_test (ev_is (ev_opL (ev_var rfl) (el_lst (vs := []) ea_nil (by decide)) fun q H5 hq e5 => rv_neD (dp_nums (U := R) (sq_of (e5 _ _ hr4))) (dp_nums (U := []) (sq_of hq)) (shaped_nums R) (shaped_nums [])) (by rw [eqv_nums]))) (fun hb H5 e5 => ?_) rfl (fun hb => ?_) fun H5 e5 => ?_
        · have ne : R ≠ [] := by simpa using hb
          have pos : 0 < R.length := List.length_pos_iff.mpr ne
          rw [getLastD_at]
          exact ev_op (ev_var rfl) ev_neg1 (rv_ixL (sq_of (e5 _ _ hr4)) (nv_last pos))
        · have e : R = [] := by simpa using hb
          rw [e]; rfl
        · have e45 := e4.trans e5
          refine s_forN (H := G2) (ei_rng2 (lo := R.getLastD 0) (n := n) (ea_cons (ev_var rfl) (ea_cons (ev_var rfl) ea_nil)) nonneg (by omega)) (eG2'.trans e45) (fun m σ4 H6 => (∃ (zs2 : List V) (v6 : Option V), σ4 = [some (.int (n : Int)), some (.ref p), some (.int (i : Int)), some (.ref l), some (.ref r), some (.int ((R.getLastD 0 : Nat) : Int)), v6] ∧ H6 l = some (.lst zs2) ∧ V.ref l ∉ zs2 ∧ Rows H6 zs2 ((W1.take j).flatMap (stepR n) ++ (List.range m).map fun s => R ++ [R.getLastD 0 + s])) ∧ Ex H' H6) (fun H6 e6 => ⟨⟨zs, v6, rfl, (e45.trans e6) _ _ hz, nz, by simpa using hRz.mono (e45.trans e6)⟩, (e3.trans e45).trans e6⟩) ?_ ?_
          · rintro G3 m x σ4 H6 eG3 nG3 eG3' hx ⟨⟨zs2, v6, rfl, hz2, nz2, hRz2⟩, e6⟩
            have n3l : G3 l = none := nG3 l nGl (by rw [e45 _ _ hz]; exact fun z => nomatch z)
            obtain ⟨hm, rfl⟩ := nums_at hx
            have hl2 := hRz2.1
            rw [List.length_append, List.length_map, List.length_range] at hl2
            refine s_appL (ys := nv (R ++ [R.getLastD 0 + m])) hz2 (ev_var rfl) ?_ (by omega) fun q H7 hq e7 h7 => ⟨Ex.mut (eG3'.trans e7) n3l, ⟨⟨zs2 ++ [.ref q], some (.int ((R.getLastD 0 : Nat) + (m : Int))), rfl, upd_same, ?_, ?_⟩, Ex.mut (e6.trans e7) hl⟩⟩
            · rw [nv_app]
              exact el_catR (ev_var rfl) (e6 _ _ hr2) (el_lst (vs := [.int ((R.getLastD 0 + m : Nat) : Int)]) (ea_cons (ev_is (ev_var rfl) (by congr 1)) ea_nil) (by show 1 ≤ 100000; decide)) (by simp; omega)
            · have hql : q ≠ l := fun z => by rw [z, hz2] at hq; cases hq
              rw [List.mem_append, List.mem_singleton]
              exact fun z => z.elim nz2 fun z => hql (V.ref.inj z).symm
            · have hql : q ≠ l := fun z => by rw [z, hz2] at hq; cases hq
              have z := ((hRz2.mono e7).snoc h7).upd (l := l) (o := .lst (zs2 ++ [.ref q])) (by
                rw [List.mem_append, List.mem_singleton]
                exact fun z => z.elim nz2 fun z => hql (V.ref.inj z).symm)
              rw [List.range_succ, List.map_append, ← List.append_assoc]
              exact z
          · rintro σ4 H6 eG3 ⟨⟨zs2, v6, rfl, hz2, nz2, hRz2⟩, e6⟩
            rw [nums_len] at hRz2
            refine ⟨eG3, ⟨zs2, _, _, _, rfl, hz2, nz2, ?_⟩, e6⟩
            rw [tk, List.flatMap_append]
            simpa [stepR] using hRz2
      · rintro σ3 H3 eG2 ⟨⟨zs, v4, v5, v6, rfl, hz, nz, hRz⟩, e3⟩
        rw [hR.1, List.take_length] at hRz
        refine s_asgL (el_list (K := K) (ev_var rfl) (sq_of hz)) fun q H4 hq e4 h4 => ⟨(eG'.trans e3).trans e4, ⟨q, zs, _, _, _, _, _, rfl, h4, ?_, fresh_back ((e1.trans eH).trans e3) hq⟩, (eH.trans e3).trans e4⟩
        have z := hRz.mono e4
        rw [← hW] at z
        exact z
    · rintro σ' H' eH' ⟨⟨p, ys, v2, v3, v4, v5, v6, rfl, hp, hR, hpn⟩, eH⟩
      rw [nums_len, Int.toNat_natCast] at hR
      exact s_ret (ev_var rfl) fun H2 e2 => k p ys H2 hpn ((e1.trans eH).trans e2) (e2 _ _ hp) (hR.mono e2)
end

/-! of Z16 -/
open PySem PySem.Spec PyProof.Rows L2 PySem.Froz Evl TS

/-! ### tables and their back tables -/
theorem thr_before {ns : List Nat} {m j : Nat} (h : j < thr ns m) : ns.getD j 0 < m := by
  have hl : j < ns.length := Nat.lt_of_lt_of_le h (thr_le ns m)
  have z := List.not_of_lt_findIdx (p := fun x => decide (m ≤ x)) (xs := ns) h
  rw [List.getD_eq_getElem?_getD, List.getElem?_eq_getElem hl]
  have : ¬ m ≤ ns[j] := by simpa using z
  show ns[j] < m
  omega
theorem thr_here {ns : List Nat} {m : Nat} (h : thr ns m < ns.length) : m ≤ ns.getD (thr ns m) 0 := by
  have z := List.findIdx_getElem (p := fun x => decide (m ≤ x)) (xs := ns) (w := h)
  rw [List.getD_eq_getElem?_getD, List.getElem?_eq_getElem h]
  exact of_decide_eq_true z
structure Bk (T : List Nat) (c b : Nat) : Prop where
  lt : b < T.length
  le : T.getD b 0 ≤ c
  max : ∀ d, d < T.length → T.getD d 0 ≤ c → d ≤ b
theorem back_at {T : List Nat} {c : Nat} (hc : c < T.length) : (backT T).getD c 0 = thr T (c + 1) - 1 := by simp [backT, List.getD_eq_getElem?_getD, hc]
theorem back_len (T : List Nat) : (backT T).length = T.length := by simp [backT]
theorem bk_of {T : List Nat} (g : Grd T) {c : Nat} (hc : c < T.length) : Bk T c ((backT T).getD c 0) := by
  rw [back_at hc]
  have h1 := thr_pos (c := c) g.ris.pos g.zero
  have h2 := thr_le T (c + 1)
  refine ⟨by omega, ?_, fun d hd hdc => ?_⟩
  · have := thr_before (ns := T) (m := c + 1) (j := thr T (c + 1) - 1) (by omega)
    omega
  · rcases Nat.lt_or_ge d (thr T (c + 1)) with h | h
    · omega
    · have z := thr_here (ns := T) (m := c + 1) (by omega)
      have y := g.ris.mono h hd
      omega
theorem bk_eq {T : List Nat} (g : Grd T) {c b : Nat} (hc : c < T.length) (h : Bk T c b) : (backT T).getD c 0 = b := by
  rw [back_at hc]
  exact back_eq g h.lt h.le h.max
theorem ext_getD {U V : List Nat} (hl : U.length = V.length) (h : ∀ c, c < U.length → U.getD c 0 = V.getD c 0) : U = V := by
  apply List.ext_getElem hl
  intro i h1 h2
  have z := h i h1
  rw [List.getD_eq_getElem?_getD, List.getD_eq_getElem?_getD, List.getElem?_eq_getElem h1, List.getElem?_eq_getElem h2] at z
  exact z
theorem comp_len (U V : List Nat) : (compT U V).length = V.length := by simp [compT]
theorem comp_at {U V : List Nat} {c : Nat} (hc : c < V.length) : (compT U V).getD c 0 = U.getD (V.getD c 0) 0 := by simp [compT, List.getD_eq_getElem?_getD, hc]
theorem comp_range (U : List Nat) : compT U (List.range U.length) = U := nat_range U
section
variable {T : List Nat} (g : Grd T)
include g
theorem t_lt {c : Nat} (hc : c < T.length) : T.getD c 0 < T.length := g.ris.lt c hc
theorem b_lt {c : Nat} (hc : c < T.length) : (backT T).getD c 0 < T.length := (bk_of g hc).lt
theorem tb_le {c : Nat} (hc : c < T.length) : T.getD ((backT T).getD c 0) 0 ≤ c := (bk_of g hc).le
theorem bt_ge {c : Nat} (hc : c < T.length) : c ≤ (backT T).getD (T.getD c 0) 0 := (bk_of g (t_lt g hc)).max c hc (Nat.le_refl _)
theorem b_mono {c d : Nat} (h : c ≤ d) (hd : d < T.length) : (backT T).getD c 0 ≤ (backT T).getD d 0 := (bk_of g hd).max _ (b_lt g (by omega)) (Nat.le_trans (tb_le g (by omega)) h)
theorem tbt {c : Nat} (hc : c < T.length) : T.getD ((backT T).getD (T.getD c 0) 0) 0 = T.getD c 0 := by
  have h1 := tb_le g (t_lt g hc)
  have h2 := g.ris.mono (bt_ge g hc) (b_lt g (t_lt g hc))
  omega
theorem btb {c : Nat} (hc : c < T.length) : (backT T).getD (T.getD ((backT T).getD c 0) 0) 0 = (backT T).getD c 0 := by
  have hb := b_lt g hc
  have h1 := bt_ge g hb
  have h2 := (bk_of g hc).max ((backT T).getD (T.getD ((backT T).getD c 0) 0) 0) (b_lt g (t_lt g hb)) (by rw [tbt g hb]; exact tb_le g hc)
  omega
theorem comp_tbt : compT T (compT (backT T) T) = T := ext_getD (by rw [comp_len, comp_len]) fun c hc => by
  rw [comp_len, comp_len] at hc
  rw [comp_at (by rw [comp_len]; exact hc), comp_at hc, tbt g hc]
theorem comp_btb : compT (backT T) (compT T (backT T)) = backT T := ext_getD (by rw [comp_len, comp_len]) fun c hc => by
  rw [comp_len, comp_len] at hc
  rw [comp_at (by rw [comp_len]; exact hc), comp_at hc, btb g (by rwa [back_len] at hc)]
theorem head_bt : headT T.length [backT T, T] = compT (backT T) T := by
  show compT (backT T) (compT T (List.range T.length)) = _
  rw [comp_range]
theorem head_tb : headT T.length [T, backT T] = compT T (backT T) := by
  show compT T (compT (backT T) (List.range T.length)) = _
  rw [← back_len T, comp_range]
theorem head_tbt : headT T.length [T, backT T, T] = T := by
  show compT T (compT (backT T) (compT T (List.range T.length))) = _
  rw [comp_range, comp_tbt g]
theorem head_btb : headT T.length [backT T, T, backT T] = backT T := by
  show compT (backT T) (compT T (compT (backT T) (List.range T.length))) = _
  rw [← back_len T, comp_range, comp_btb g]
theorem ris_bt : Ris (compT (backT T) T) := ⟨by rw [comp_len]; exact g.ris.pos, fun i hi => by
  rw [comp_len] at hi
  rw [comp_at (by omega), comp_at hi]
  exact b_mono g (g.ris.up i hi) (t_lt g hi), fun i hi => by
  rw [comp_len] at hi ⊢
  rw [comp_at hi]
  exact b_lt g (t_lt g hi)⟩
theorem ris_tb : Ris (compT T (backT T)) := ⟨by rw [comp_len, back_len]; exact g.ris.pos, fun i hi => by
  rw [comp_len, back_len] at hi
  rw [comp_at (by rw [back_len]; omega), comp_at (by rw [back_len]; exact hi)]
  exact g.ris.mono (b_mono g (Nat.le_succ i) hi) (b_lt g hi), fun i hi => by
  rw [comp_len, back_len] at hi
  rw [comp_len, back_len, comp_at (by rw [back_len]; exact hi)]
  exact t_lt g (b_lt g hi)⟩
end
/-! ### the tables of a set of shown steps -/
section
variable {M : List Nat} {n : Nat} (h1 : 1 ≤ n) (h60 : n ≤ 60) (hM : ∀ m ∈ M, m < n)
include h1 h60 hM
end

end Z
end
/-! Y17 -/
set_option linter.all false
set_option maxRecDepth 100000
set_option maxHeartbeats 4000000
noncomputable section
namespace Z
/-! of Z17 -/
open PySem PySem.Spec PyProof.Rows L2 PySem.Froz Evl TS

section
variable {P : Program} {w : World} {K : PySem.W.Frag} {mg : PySem.Str → Option Value} {σ : L2.St} {H : Hp} {ta tb te : TE} {CF CW : Addr} {l : PySem.Str} {T : List Nat}
theorem sl_put {a b : Addr} {o i : List Nat} (ha : SqL K H a (nv o)) (hb : SqL K H b (nv i)) (hz : i.length ≤ 1000) (hk : ∀ k ∈ i, k < o.length) : SpL (spPut K) [.ref a, .ref b] H (nv (compT o i)) := fun H1 e Q q E => ⟨a, b, o, i, rfl, ex_l e ha, ex_l e hb, hz, hk, fun p H2 hp e2 h2 => q p H2 hp e2 h2⟩
/-- the first is a new list -/
theorem ev_sameL {b : Addr} {U : List Nat} {E : XK} (h : EvL ta σ H (nv U)) (hb : ∀ H1, Ex H H1 → Ev tb σ H1 (.ref b)) (hB : SqL K H b (nv U)) (hz : U.length ≤ 1000) : Ev (tCall (spSame K) [] E (tCons ta (tCons tb tNil))) σ H (.bl true) := fun H1 e Q q =>
  h H1 e _ fun p H2 hp e2 h2 => hb H2 (e.trans e2) H2 (Ex.refl _) _ fun H3 e3 => ⟨p, b, U, rfl, sq_of (e3 _ _ h2), ex_l ((e.trans e2).trans e3) hB, hz, fun H4 e4 => q H4 ((e2.trans e3).trans e4)⟩
theorem ev_same {a b : Addr} {U : List Nat} {E : XK} (h : Ev ta σ H (.ref a)) (hb : Ev tb σ H (.ref b)) (hA : SqL K H a (nv U)) (hB : SqL K H b (nv U)) (hz : U.length ≤ 1000) : Ev (tCall (spSame K) [] E (tCons ta (tCons tb tNil))) σ H (.bl true) :=
  ev_call (ea_cons h (ea_cons hb ea_nil)) (sv_same hA hB hz)
/-! ### heads of the letter and its capital -/
section
end
end

/-! of Z19 -/
open PySem PySem.Spec PyProof.Rows L2 PySem.Froz Evl TS GenW

/-! ### what the short chains show -/
section
variable {P : Program} {w : World} {K : PySem.W.Frag} {σ : L2.St} {H : Hp} {ta tb te : TE} {tA : TA} {D : Ends} {tz : TS} {i : Nat}
/-- a new list of lists of numbers -/
def EvW (te : TE) (σ : L2.St) (H : Hp) (W : List (List Nat)) : Prop := ∀ H1, Ex H H1 → ∀ Q : VK, RetR W H1 Q → te σ H1 Q
theorem q_asgW {W : List (List Nat)} (h : EvW te σ H W) (k : ∀ p ys H2, H p = none → Ex H H2 → H2 p = some (.lst ys) → Rows H2 ys W → tz D (σ.set i (some (.ref p))) H2) : tSeq (tAsg te (gName i)) tz D σ H := h H (Ex.refl H) _ k
theorem ew_call {sp : Sp} {vs : List V} {E : XK} {W : List (List Nat)} (h : EvA tA σ H vs) (hs : ∀ H1, Ex H H1 → ∀ Q : VK, RetR W H1 Q → ∀ E, sp vs H1 Q E) : EvW (tCall sp [] E tA) σ H W := fun H1 e Q q => h H1 e _ fun H2 e2 => by
  rw [List.append_nil]
  exact hs H2 (e.trans e2) Q (fun p ys H3 hp e3 h3 hR => q p ys H3 (fresh_back e2 hp) (e2.trans e3) h3 hR) E
/-- list(walk_tables(n)) -/
theorem ew_walk {E : XK} {n : Nat} (h : EvA tA σ H [.int (n : Int)]) (h1 : 1 ≤ n) (h5 : n ≤ 5) : EvW (tListG (tCallG spWalk [] E tA)) σ H (rises n) := fun H1 e Q q => h H1 e _ fun H2 e2 =>
  ⟨n, rfl, h1, h5, fun ys H3 e3 hR p hp => q p ys _ (fresh_back (e2.trans e3) hp) ((e2.trans e3).trans (Ex.new hp)) upd_same (hR.mono (Ex.new hp))⟩
theorem rv_notB {a b : Bool} : RV rNotB (.bl a) (.bl b) H (.bl (!decide (a = b))) := fun H1 _ _ q => ⟨a, b, rfl, rfl, q H1 (Ex.refl H1)⟩
end

/-! of Z20 -/
open PySem PySem.Spec PyProof.Rows L2 PySem.Froz Evl TS GenW

section
variable {P : Program} {w : World} {K : PySem.W.Frag} {mg : PySem.Str → Option Value} {base : Heap} {f f1 f2 f3 f4 f5 f6 : Addr} {fd fd1 fd2 fd3 fd4 fd5 fd6 : FuncData}
theorem ev_sameR {σ : L2.St} {H : Hp} {ta tb : TE} {a : Addr} {U : List Nat} {E : XK} (ha : Ev ta σ H (.ref a)) (hA : SqL K H a (nv U)) (hb : EvL tb σ H (nv U)) (hz : U.length ≤ 1000) : Ev (tCall (spSame K) [] E (tCons ta (tCons tb tNil))) σ H (.bl true) := fun H1 e Q q =>
  ha H1 e _ fun H2 e2 => hb H2 (e.trans e2) _ fun p H3 hp e3 h3 => ⟨a, p, U, rfl, ex_l ((e.trans e2).trans e3) hA, sq_of h3, hz, fun H4 e4 => q H4 ((e2.trans e3).trans e4)⟩
/-! ### _law_short -/
end

/-! of Z21 -/
open PySem PySem.Spec PyProof.Rows L2 PySem.Froz Evl TS GenW

/-! ### the law's own steps -/
theorem at_in {α : Type} {xs : List α} {r : Int} (h0 : 0 ≤ r) (h1 : r < xs.length) : ∃ c, c ∈ xs ∧ atI xs r = some c := by
  obtain ⟨k, rfl⟩ : ∃ k : Nat, r = (k : Int) := ⟨r.toNat, by omega⟩
  have hk : k < xs.length := by omega
  exact ⟨xs[k], List.getElem_mem _, by rw [atI_nat]; simp [hk]⟩
theorem Src.skip {H : Hp} {a b : Addr} {n : Nat} {o : HO} (h : Src H a n) (ne : b ≠ a) : Src (upd H b o) a n := by
  obtain ⟨u, v, h1, h2⟩ := h
  exact ⟨u, v, by rw [upd_ne (Ne.symm ne)]; exact h1, h2⟩
theorem exb_new {H H' : Hp} {a b : Addr} {o : HO} (h : ExB a H H') (nb : H b = none) : ExB a H (upd H' b o) := fun c u n z => by
  rw [upd_ne (fun q => by rw [q, nb] at z; cases z)]; exact h c u n z
section
variable {P : Program} {w : World} {K : PySem.W.Frag} {σ : L2.St} {G H H1 : Hp} {a : Addr} {k1 k2 i j : Nat} {te ti : TE} {tt : TT} {D : Ends} {tz : TS} {wi : TI} {xs : List V} {vs : List Nat}
theorem ed_pick {s : PySem.Str} {m : Int} {k : Nat} (h : Ev te σ G (.str s)) (hi : EvD ti σ G a k (Rdraw m)) (hm : m ≤ s.cps.toList.length) (h1 : 1 ≤ s.cps.toList.length) (hz : s.length ≤ 1000) :
    EvD (tOp rIxS te ti) σ G a (0 + k) (fun v => ∃ c, c ∈ s.cps.toList ∧ v = .str ⟨#[c]⟩) := ed_op (ed_of h) (fun _ _ => hi) fun x y rx ⟨r, ry, r0, r1⟩ => by
  subst rx ry
  obtain ⟨c, hc, e⟩ := at_in (xs := s.cps.toList) (r := r) r0 (by omega)
  exact ⟨_, ⟨c, hc, rfl⟩, rv_ixS (by omega) e⟩
theorem src_go {ns : List Int} {b : Addr} {k : Nat} {Q : VK} (hS : SqL K H b (ns.map V.int)) (hz : ns.length ≤ 63) (hs : σ[i]? = some (some (.ref b))) (q : ∀ p H2, H p = none → Ex H H2 → Src H2 p 0 → Q (.ref p) H2) :
    tCall (spSource K) [] E0 (tCons (tVar i) (tCons (tC (.int k)) tNil)) σ H Q :=
  ea_cons (ev_var hs) (ea_cons ev_c ea_nil) H (Ex.refl H) _ fun H2 e2 => by
    rw [List.append_nil]
    exact ⟨b, k, ns, rfl, ex_l e2 hS, hz, fun p H3 hp e3 s3 => q p H3 (fresh_back e2 hp) (e2.trans e3) s3⟩
theorem ed_int {k : Nat} {R : V → Prop} (h : EvD te σ G a k R) (hR : ∀ v, R v → ∃ i : Int, v = .int i) : EvD (tCB rInt (tCons te tNil)) σ G a k R := fun n H1 e s hn Q q => h n H1 e s hn _ fun v H2 r e2 b2 s2 => by
  obtain ⟨i, rfl⟩ := hR v r
  exact .inl ⟨i, rfl, q _ H2 r e2 b2 s2⟩
theorem etd_yes : EvTD tYes σ G a 0 fun b => b = true := fun n H1 e s hn Q q => q true H1 rfl e (.of (Ex.refl H1)) s
/-- a list comprehension whose test and whose item may draw: numbers below b -/
theorem kc_draw {n b : Nat} {Rb : Bool → Prop} (full : Prop) (hf : full → ∀ c, Rb c → c = true) (h : EvI wi σ G xs) (na : G a = none) (hz : xs.length ≤ 3000) (hw : ∀ x, wipe ((wipe σ vs).set j (some x)) vs = wipe σ vs)
    (ht : ∀ (i : Nat) (x : V) G1, Ex G G1 → G1 a = none → xs[i]? = some x → EvTD tt ((wipe σ vs).set j (some x)) G1 a k1 Rb)
    (he : ∀ (i : Nat) (x : V) G1, Ex G G1 → G1 a = none → xs[i]? = some x → EvD te ((wipe σ vs).set j (some x)) G1 a k2 fun v => ∃ k : Nat, v = .int (k : Int) ∧ k < b)
    (e : Ex G H) (s : Src H a n) (hn : n + xs.length * (k1 + k2) ≤ 2 ^ 40) {Q : VK}
    (q : ∀ p (M : List Nat) H2, H p = none → Ex G H2 → ExB a H H2 → Src H2 a (n + xs.length * (k1 + k2)) → H2 p = some (.lst (nv M)) → M.length ≤ xs.length → (full → M.length = xs.length) → (∀ k ∈ M, k < b) → Q (.ref p) H2) :
    tKc P w .lst wi (gName j) tt te vs σ H Q := h H e _ fun J H1 G1 e1 eG eG1 nG g Dd hD => by
  have s1 := s.mono e1
  have sa : H a ≠ none := by obtain ⟨_, _, z, _⟩ := s; rw [z]; exact fun q => nomatch q
  have na1 : G1 a = none := nG a na sa
  have nDa : Dd ≠ a := fun z => by obtain ⟨_, _, y, _⟩ := s1; rw [z, y] at hD; cases hD
  have gD : G1 Dd = none := by cases z : G1 Dd with | none => rfl | some o => rw [eG1 _ _ z] at hD; cases hD
  have hHD : H Dd = none := fresh_back e1 hD
  refine turns (g := g) (Step := fun x H Nx => gName j x (wipe σ vs) H fun σ2 H2 => wipe σ2 vs = wipe σ vs ∧ tt σ2 H2 fun b H3 => if b = true then te σ2 H3 fun y H4 => Kd.lst.add P w Dd H4 y Nx else Nx H3) (Qd := fun H => Q (.ref Dd) H)
    (fun i H' => i ≤ xs.length ∧ ∃ M : List Nat, M.length ≤ i ∧ (full → M.length = i) ∧ (∀ k ∈ M, k < b) ∧ Ex G1 H' ∧ ExB a H H' ∧ Src H' a (n + i * (k1 + k2)) ∧ H' Dd = some (.lst (nv M))) ⟨Nat.zero_le _, [], Nat.le_refl _, fun _ => rfl, (fun k z => nomatch z), eG1.trans (Ex.new hD), exb_new (ExB.of e1) hHD, ?_, upd_same⟩ (fun i H' _ p => ?_) (fun i x H' hx p => ⟨hw x, ?_⟩) (fun H' p => ?_)
  · rw [Nat.zero_mul, Nat.add_zero]; exact s1.skip nDa
  · obtain ⟨_, M, _, _, _, p, _⟩ := p; exact p
  · obtain ⟨_, M, m1, m2, m3, pG, pB, pS, pD⟩ := p
    have hi := (List.getElem?_eq_some_iff.mp hx).1
    have hle : (i + 1) * (k1 + k2) ≤ xs.length * (k1 + k2) := Nat.mul_le_mul_right _ hi
    have hsu : (i + 1) * (k1 + k2) = i * (k1 + k2) + (k1 + k2) := Nat.succ_mul _ _
    refine ht i x G1 eG na1 hx _ H' pG pS (by omega) _ fun c H3 rc e3 b3 s3 => ?_
    cases c with
    | true =>
      rw [if_pos rfl]
      refine he i x G1 eG na1 hx _ H3 e3 s3 (by omega) _ fun y H4 ⟨k, hy, hk⟩ e4 b4 s4 => ?_
      subst hy
      have hD4 : H4 Dd = some (.lst (nv M)) := b4 _ _ nDa (b3 _ _ nDa pD)
      refine ⟨nv M, hD4, sz_lt (by rw [List.length_map]; omega), by omega, M ++ [k], by rw [List.length_append, List.length_singleton]; omega, fun f => by rw [List.length_append, List.length_singleton, m2 f], fun k' hk' => ?_, Ex.mut e4 gD, exb_new ((pB.trans b3).trans b4) hHD, ?_, ?_⟩
      · rcases List.mem_append.mp hk' with z | z
        · exact m3 _ z
        · rw [List.mem_singleton.mp z]; exact hk
      · rw [hsu]
        have z := s4.skip (o := .lst (nv M ++ [.int (k : Int)])) nDa
        rw [show n + (i * (k1 + k2) + (k1 + k2)) = n + i * (k1 + k2) + k1 + k2 by omega]
        exact z
      · rw [upd_same, nv_snoc]
    | false =>
      rw [if_neg (by decide)]
      exact ⟨by omega, M, by omega, fun f => absurd (hf f false rc) (by decide), m3, e3, pB.trans b3, s3.more (by omega), b3 _ _ nDa pD⟩
  · obtain ⟨_, M, m1, m2, m3, pG, pB, pS, pD⟩ := p
    exact q Dd M H' hHD (eG.trans pG) pB pS pD m1 m2 m3
/-- sorted numbers, drawn -/
theorem nat_of {M : List Nat} {ns : List Int} (h : ns.Perm (M.map fun (k : Nat) => (k : Int))) : ∃ U : List Nat, ns = U.map (fun (k : Nat) => (k : Int)) := by
  refine ⟨ns.map Int.toNat, ?_⟩
  rw [List.map_map]
  conv => lhs; rw [← List.map_id ns]
  refine List.map_congr_left fun x hx => ?_
  obtain ⟨k, _, rfl⟩ := List.mem_map.mp (h.subset hx)
  show (k : Int) = ((k : Int).toNat : Int)
  omega
theorem srt_ris {M U : List Nat} {n : Nat} (hp : (U.map fun (k : Nat) => (k : Int)).Perm (M.map fun (k : Nat) => (k : Int))) (hs : (U.map fun (k : Nat) => (k : Int)).Pairwise (· ≤ ·)) (hM : M.length = n) (hb : ∀ k ∈ M, k < n) (n1 : 1 ≤ n) (n60 : n ≤ 60) : U.length = n ∧ Grd (U.set 0 0) := by
  have hl : U.length = n := by have := hp.length_eq; simpa [hM] using this
  have hU : ∀ k ∈ U, k < n := fun k hk => by
    obtain ⟨m, hm, e⟩ := List.mem_map.mp (hp.subset (List.mem_map.mpr ⟨k, hk, rfl⟩))
    have : m = k := by omega
    rw [← this]; exact hb m hm
  have hle : ∀ i, i + 1 < n → U.getD i 0 ≤ U.getD (i + 1) 0 := fun i hi => by
    have z := List.pairwise_iff_getElem.mp hs i (i + 1) (by rw [List.length_map]; omega) (by rw [List.length_map]; omega) (by omega)
    rw [List.getElem_map, List.getElem_map] at z
    rw [List.getD_eq_getElem?_getD, List.getElem?_eq_getElem (by omega), List.getD_eq_getElem?_getD, List.getElem?_eq_getElem (by omega)]
    exact Int.ofNat_le.mp z
  have h0 : (U.set 0 0).getD 0 0 = 0 := by
    rw [List.getD_eq_getElem?_getD, List.getElem?_set_self (by omega)]; rfl
  have hs1 : ∀ i, 1 ≤ i → (U.set 0 0).getD i 0 = U.getD i 0 := fun i hi => by
    rw [List.getD_eq_getElem?_getD, List.getElem?_set_ne (by omega), ← List.getD_eq_getElem?_getD]
  refine ⟨hl, ⟨⟨by rw [List.length_set]; omega, fun i hi => ?_, fun i hi => ?_⟩, h0, by rw [List.length_set]; omega⟩⟩
  · rw [List.length_set] at hi
    match i with
    | 0 => rw [h0]; exact Nat.zero_le _
    | i + 1 => rw [hs1 _ (by omega), hs1 _ (by omega)]; exact hle _ (by omega)
  · rw [List.length_set] at hi ⊢
    match i with
    | 0 => rw [h0]; omega
    | i + 1 => rw [hs1 _ (by omega), hl]; exact hU _ (getD_mem hi)
theorem ev_neD {x y : V} {U : List Nat} {ta tb : TE} (ha : Ev ta σ H x) (hb : Ev tb σ H y) (hx : ∀ H1, Ex H H1 → Dp K H1 x (dN U)) (hy : ∀ H1, Ex H H1 → Dp K H1 y (dN U)) : EvT (tTest (tOp (rNeD K) ta tb)) σ H false := et_is (et_test (ev_op ha hb (rv_neD hx hy (shaped_nums U) (shaped_nums U)))) (by rw [eqv_nums, decide_eq_true rfl]; rfl)
end

/-! of Z22 -/
open PySem PySem.Spec PyProof.Rows L2 PySem.Froz Evl TS GenW

/-! ### law -/
section
variable {P : Program} {w : World} {K : PySem.W.Frag} {mg : PySem.Str → Option Value} {base : Heap} {f : Addr} {fd : FuncData}
theorem q_asgE {σ : L2.St} {H : Hp} {te : TE} {i : Nat} {D : Ends} {tz : TS} (R : V → Hp → Prop) (h : ∀ Q : VK, (∀ v H2, R v H2 → Q v H2) → te σ H Q) (k : ∀ v H2, R v H2 → tz D (σ.set i (some v)) H2) : tSeq (tAsg te (gName i)) tz D σ H := h _ k
theorem tcb_one {σ : L2.St} {H : Hp} {te : TE} {Q : VK} {r : List V → Hp → VK → Prop} (h : te σ H fun v H1 => r [v] H1 Q) : tCB r (tCons te tNil) σ H Q := h
def spLaw (K : PySem.W.Frag) : Sp := fun vs H Q _ => ∃ (a : Addr) (ns : List Int), vs = [.ref a] ∧ SqL K H a (ns.map V.int) ∧ ns.length ≤ 63 ∧ RetV (.bl true) H Q
end

end Z
end
/-! Y18 -/
set_option linter.all false
set_option maxRecDepth 100000
set_option maxHeartbeats 4000000
noncomputable section
namespace Z
open PySem PySem.Spec PyProof.Rows L2 PySem.Froz Evl TS GenW

/-! ### list(g) where g's exception may be caught here -/
section
variable {X : Cx} {k : Nat} {pos p : Pos}
theorem pe_listGS {e : Expr} {tg : L2.St → TGen} {E : L2.St → XK} {nm : PySem.Str} (h : ∀ σ, PGen X k e (tg σ) (E σ)) (hx : ∀ σ, PassesAt (L2.CX X.prog X.w) X σ (E σ)) (hns : ∀ σ, NoStop X.K (E σ)) (hr : Room (k + 3) X.A) (hg : Gl X nm) (hmg : X.mg nm = none) (hv : bootBuiltins nm = some (.type "list")) (hnm : nm ≠ "__name__" := by decide) (hdb : (nm == ("__debug__" : PySem.Str)) = false := by decide)
    (he : starEach [e] X.env = (false, eval e X.env) :: starEach [] X.env := by rfl) : PE X (.Call (.Name nm p) [e] [] pos) (fun σ H Q => tListG (tg σ) σ H Q) := by
  refine ⟨fun pins s σ H Q I hq => wpAny_Call_Name_kw (ld_blt I hg hmg hv (PyProof.Rows.callWith_type1 ?_ he rfl) hnm hdb)⟩
  rw [he]
  show wpAny _ _ (spliced ((false, eval e X.env) :: backTo pos (starEach [] X.env))) _ _ s
  refine Calls.spliced_cons (thn ((h σ).run pins s σ H _ I hq) fun u s1 ⟨H1, sc, ex, I1, hex, hG⟩ => Calls.spliced_nil ?_)
  have hsz : sc.heap.objs.size ≤ s1.heap.objs.size := by
    obtain ⟨a, g, c, _, h1, h2, _⟩ := hG
    exact Nat.le_trans h1 (Nat.le_of_lt h2)
  refine call_list_new hr I1.ok.frames hG (fun S s' acc c H' ys q0 q1 q2 hl q3 q4 q5 q6 q7 q8 => ⟨.ref S, upd H' S (.lst ys), I1.drained (Nat.le_trans hsz q0) hl q1 q2 hex q3 q4 q5 q6 q7, rfl, q8 S q7⟩) fun e s' g hc => ?_
  have stay : ∀ (b : Addr) o, X.base.get? b = some o → s'.heap.get? b = some o := fun b o eb => by
    obtain ⟨a, B, H', cls, d, _, fl, _, ub, _⟩ := id hc
    refine fl.1 b o (ub.keep b o (I1.bs b o eb).1 (I1.bs b o eb).2 fun hm => ?_)
    rcases List.mem_cons.mp (I1.stkSub b hm) with z | z
    · exact absurd (Nat.lt_of_lt_of_le (z ▸ Heap.lt_size eb) (Nat.le_trans I1.ok.bsz I1.ok.above)) (Nat.lt_irrefl _)
    · exact I1.ok.nofr eb z
  refine ⟨notStop_of (hns σ) (I1.ok.mod.kin.keeps stay) hc, hx σ pins H1 sc e _ I1 ?_⟩
  obtain ⟨a, B, H', cls, d, z1, fl, z2, ub, z3, z4, z5, z6⟩ := hc
  exact ⟨a, B, H', cls, d, z1, fl, z2, ub, z3, z4, allBare_setGen z5 rfl, z6⟩
end
/-- the exceptions of one class alone -/
def only (C : Addr) (E : XK) : XK := fun cls d H => cls = .ref C ∧ E cls d H
theorem only_at {X : Cx} {W : WX} {C : Addr} (tk : Takes X W) (σ : L2.St) : PassesAt (L2.CX X.prog X.w) X σ (only C (WE W σ)) := fun pins H s e s' I ⟨a, B, H', cls, d, z1, fl, z2, ub, z3, z4, z5, z6⟩ =>
  passAt tk σ pins H s e s' I ⟨a, B, H', cls, d, z1, fl, z2, ub, z3, z4, z5, z6.2⟩
theorem only_stop {K : PySem.W.Frag} {C : Addr} {E : XK} (h : PySem.W.subIn K (.ref C) (.type "StopIteration") = some false) : NoStop K (only C E) := fun cls d H z => by rw [z.1]; exact h
theorem RaiseF.only {C : Addr} {fs : List (PySem.Str × V)} {H : Hp} {E : XK} (h : RaiseF C fs H E) : RaiseF C fs H (only C E) := fun d H2 h1 e h2 => ⟨rfl, h d H2 h1 e h2⟩

/-- told = (e.f, isinstance(e, DialError)); e in slot i, told in slot j -/
def tTold2 (K : PySem.W.Frag) (C CD : Addr) (f : PySem.Str) (i j : Nat) : Addr → Value → Option Addr → TS := fun a cls d => tAsg (tTup (tCons (tXf a cls d C f (tVar i)) (tCons (tCB (rIsC K a cls d) (tCons (tVar i) (tCons (tC (.ref CD)) tNil))) tNil))) (gName j)
theorem ev_isC {K : PySem.W.Frag} {σ : L2.St} {H : Hp} {C a dd : Addr} {i : Nat} {c : V} {b : Bool} {fs : List (PySem.Str × V)} (T : XC K C) (hi : σ[i]? = some (some (.ref a))) (hd : H dd = some (.xd fs)) (k : IsOne K C c b) : Ev (tCB (rIsC K a (.ref C) (some dd)) (tCons (tVar i) (tCons (tC c) tNil))) σ H (.bl b) := fun H1 e Q q =>
  ⟨.ref a, hi, C, c, b, rfl, rfl, T, .inr ⟨dd, fs, rfl, .inr (e _ _ hd)⟩, k, q H1 (Ex.refl H1)⟩
theorem ev_xf {K : PySem.W.Frag} {σ : L2.St} {H : Hp} {C a dd : Addr} {i : Nat} {f : PySem.Str} {v : V} (hi : σ[i]? = some (some (.ref a))) (hd : H dd = some (.xd [(f, v)])) : Ev (tXf a (.ref C) (some dd) C f (tVar i)) σ H v := fun H1 e Q q =>
  ⟨.ref a, hi, rfl, rfl, dd, _, v, rfl, e _ _ hd, by simp [List.lookup], q H1 (Ex.refl H1)⟩
theorem told_run2 {K : PySem.W.Frag} {σ : L2.St} {H : Hp} {C CD a dd : Addr} {i j : Nat} {f : PySem.Str} {v : V} {D : Ends} (T : XC K C) (hi : σ[i]? = some (some (.ref a))) (hd : H dd = some (.xd [(f, v)])) (k1 : IsOne K C (.ref CD) true)
    (q : ∀ p H2, H p = none → Ex H H2 → H2 p = some (.tup [v, .bl true]) → D.nx (σ.set j (some (.ref p))) H2) : tTold2 K C CD f i j a (.ref C) (some dd) D σ H :=
  s_asgU (eu_tup (ea_cons (ev_xf (K := K) hi hd) (ea_cons (ev_isC T hi hd k1) ea_nil)) (by show 2 ≤ 100000; decide)) q
theorem XC.xf {K : PySem.W.Frag} {C : Addr} (T : XC K C) : XfC K C := ⟨T.ga, T.gg, T.oex.exC, T.hd⟩
/-- what except and isinstance need of the errors -/
structure Kn (K : PySem.W.Frag) (mg : PySem.Str → Option Value) (CS CG CD : Addr) : Prop where
  gD : mg "DialError" = some (.ref CD)
  es : PySem.W.exmOne K (.ref CS) (.ref CS) = some true
  eg : PySem.W.exmOne K (.ref CG) (.ref CG) = some true
  sd : IsOne K CS (.ref CD) true
  gd : IsOne K CG (.ref CD) true
  ss : PySem.W.subIn K (.ref CS) (.type "StopIteration") = some false

section
variable {P : Program} {w : World} {K : PySem.W.Frag} {mg : PySem.Str → Option Value} {base : Heap} {f f1 CS CG CD fI : Addr} {fd fd1 fdI : FuncData}
/-! ### _law_back_of -/
abbrev s_back_of : Stmt := top 63
abbrev nBO : List PySem.Str := ["_law_table", "_law_found", "_law_refused", "e"]
theorem scBO : FnScope nBO ["_law_table"] (defScope s_back_of) := ⟨rfl, rfl, rfl, by decide +kernel, rfl, by decide +kernel, by decide +kernel⟩
def spBO (K : PySem.W.Frag) : Sp := fun vs H Q _ => ∃ (a : Addr) (ns : List Nat), vs = [.ref a] ∧ SqL K H a (nv ns) ∧ ns.length ≤ 1000 ∧ 0 < ns.length ∧
  (ns.getD 0 0 = 0 → ∀ p b H2, Ex H H2 → H2 p = some (.tup [.ref b, .non]) → H2 b = some (.lst (nv (backT ns))) → Q (.ref p) H2) ∧
  (ns.getD 0 0 ≠ 0 → ∀ p t H2, Ex H H2 → H2 p = some (.tup [.non, .ref t]) → H2 t = some (.tup [.str "", .bl true]) → Q (.ref p) H2)
theorem ok_back_of (L : Lb mg) (T : XNotG K mg CG fI fdI) (N : Kn K mg CS CG CD) (D : Dat K mg "_law_back_of" s_back_of ["_law_table"] f fd) (D1 : Dat K mg "back_table" s_back ["table"] f1 fd1) (G1 : FnOk P w K mg base (L2.CX P w) 3 f1 fd1 ["table"] (spBackB K CG)) :
    FnOk P w K mg base (L2.CX P w) 4 f fd ["_law_table"] (spBO K) := by
  refine D.F.okX scBO (fun vs H Q E h => ?_) (fun cdv A outer s H vs Q E hr h => ?_)
  · obtain ⟨a, ns, rfl, _⟩ := h
    rfl
  · obtain ⟨a, ns, rfl, ha, hz, h0, k1, k2⟩ := h
    refine ⟨_, pss_cons (ps_set (i := 1) scBO.nd rfl (Or.inl rfl) pe_non) (pss_cons (ps_set (i := 2) scBO.nd rfl (Or.inl rfl) pe_non)
      (pss_cons (ps_try_as (i := 3) (ts := tTold2 K CG CD "dial" 3 2) (Wout := fun _ _ _ _ => False) rfl rfl scBO.nd rfl rfl ⟨rfl, by decide, Or.inl T.g⟩ takes0
        (fun W pn xe tk _ => pss_one (ps_set (i := 1) scBO.nd rfl (Or.inl rfl) (by exact pe_callS G1 hr rfl D1.g D1.k D1.b (fun σ => passAt tk σ) (pa_cons (pv 0) pa_nil))))
        (fun a oe cls d pn hz hf => pss_one (ps_set (i := 2) scBO.nd rfl (Or.inl rfl) (by exact pe_tup (pa_cons (pe_xf (XC.xf T.x) (T.no _ (by simp)) hz hf (pv 3)) (pa_cons (pe_callB (call_isC hz hf) (by rfl) L.isi boot_isinstance (pa_cons (pv 3) (pa_cons (pe_glob rfl N.gD rfl) pa_nil))) pa_nil))))))
      (pss_one (ps_ret (pe_tup (pa_cons (pv 1) (pa_cons (pv 2) pa_nil))))))), ?_⟩
    refine q_asg ev_c fun H1 e1 => q_asg ev_c fun H2 e2 => ?_
    have e12 := e1.trans e2
    refine ⟨.ref a, rfl, a, ns, rfl, ex_l e12 ha, hz, h0, fun g p H3 hp e3 h3 => ?_, fun g d H3 hd e3 h3 => ?_⟩
    · exact s_retU (eu_tup (ea_cons (ev_var rfl) (ea_cons (ev_var rfl) ea_nil)) (by show 2 ≤ 100000; decide)) fun t H4 ht e4 h4 => k1 g t p H4 ((e12.trans e3).trans e4) h4 (e4 _ _ h3)
    · refine ⟨true, N.eg, fun _ b hb => told_run2 T.x rfl h3 N.gd fun t H4 ht e4 h4 => ?_, fun z => Bool.noConfusion z⟩
      exact s_retU (eu_tup (ea_cons (ev_var rfl) (ea_cons (ev_var rfl) ea_nil)) (by show 2 ≤ 100000; decide)) fun p H5 hp e5 h5 => k2 g p t H5 (((e12.trans e3).trans e4).trans e5) h5 (e5 _ _ h4)
/-! ### _law_walk_refused -/
abbrev s_walk_ref : Stmt := top 64
abbrev nWR : List PySem.Str := ["_law_steps", "_law_found", "_law_refused", "e"]
theorem scWR : FnScope nWR ["_law_steps"] (defScope s_walk_ref) := ⟨rfl, rfl, rfl, by decide +kernel, rfl, by decide +kernel, by decide +kernel⟩
def spWR : Sp := fun vs H Q _ => ∃ n : Int, vs = [.int n] ∧ ¬ (1 ≤ n ∧ n ≤ 8) ∧ RetV (.bl true) H Q
theorem ev_isNon {σ : L2.St} {H : Hp} {te : TE} {v : V} (h : Ev te σ H v) : Ev (tOp rIsN te (tC .non)) σ H (.bl (decide (v = .non))) := ev_op h ev_c fun H1 e Q q => ⟨rfl, q H1 (Ex.refl H1)⟩
theorem eqv_self {d : PyData} (h : SeqAt.shaped d = true) : PyData.eqv d d = true := PySem.SeqAt.eqv_refl d (SeqAt.canLay_of_shaped h)
theorem shaped_nb (n : Int) : SeqAt.shaped (.tuple [.int n, .bool true]) = true := by simp [SeqAt.shaped, PyData.canLay0, PyData.canLayAll0, PyData.depth, PyData.depthAll]
theorem shaped_sb : SeqAt.shaped (.tuple [.str "", .bool true]) = true := by decide +kernel
theorem dp_nb {H : Hp} {p : Addr} {n : Int} (h : H p = some (.tup [.int n, .bl true])) : ∀ H1, Ex H H1 → Dp K H1 (.ref p) (.tuple [.int n, .bool true]) := fun H1 e => .tup (st_of (e _ _ h)) (.cons (.int n) (.cons (.bl true) .nil))
theorem dp_sb {H : Hp} {p : Addr} (h : H p = some (.tup [.str "", .bl true])) : ∀ H1, Ex H H1 → Dp K H1 (.ref p) (.tuple [.str "", .bool true]) := fun H1 e => .tup (st_of (e _ _ h)) (.cons (.str "") (.cons (.bl true) .nil))
theorem ok_walk_refused (W : Wd mg) (L : Lb mg) (T : XSteps K mg CS fI fdI) (N : Kn K mg CS CG CD) (D : Dat K mg "_law_walk_refused" s_walk_ref ["_law_steps"] f fd) (D1 : Dat K mg "walk_tables" s_walk ["steps"] f1 fd1) (G1 : GFn P w K mg base 4 f1 fd1 ["steps"] (spWalkX CS)) :
    FnOk P w K mg base (L2.CX P w) 8 f fd ["_law_steps"] spWR := by
  refine D.F.okX scWR (fun vs H Q E h => ?_) (fun cdv A outer s H vs Q E hr h => ?_)
  · obtain ⟨n, rfl, _⟩ := h
    rfl
  · obtain ⟨n, rfl, hn, k⟩ := h
    have hu := hr.units
    have hr4 : Room 4 _ := hr.mono (by decide)
    refine ⟨_, pss_cons (ps_set (i := 1) scWR.nd rfl (Or.inl rfl) pe_non) (pss_cons (ps_set (i := 2) scWR.nd rfl (Or.inl rfl) pe_non)
      (pss_cons (ps_try_as (i := 3) (ts := tTold2 K CS CD "many" 3 2) (Wout := fun _ _ _ _ => False) rfl rfl scWR.nd rfl rfl ⟨rfl, by decide, Or.inl T.g⟩ takes0
        (fun W' pn xe tk _ => pss_one (ps_set (i := 1) scWR.nd rfl (Or.inl rfl) (by exact pe_listGS (E := fun σ => only CS (WE W' σ)) (fun σ => pgen_call G1 hr4 rfl D1.g D1.k D1.b .nil (pa_cons (pv 0) pa_nil)) (fun σ => only_at tk σ) (fun σ => only_stop N.ss) hr rfl W.list PyProof.Rows.boot_list)))
        (fun a oe cls d pn hz hf => pss_one (ps_set (i := 2) scWR.nd rfl (Or.inl rfl) (by exact pe_tup (pa_cons (pe_xf (XC.xf T.x) (T.no _ (by simp)) hz hf (pv 3)) (pa_cons (pe_callB (call_isC hz hf) (by rfl) L.isi boot_isinstance (pa_cons (pv 3) (pa_cons (pe_glob rfl N.gD rfl) pa_nil))) pa_nil))))))
      (pss_one (ps_ret (pe_and (pe_cmpR op_isN1 (pv 1) pe_non (nomark _)) (pe_one (pe_cmpR (op_eqD hu) (pv 2) (pe_tup (pa_cons (pv 0) (pa_cons pe_bl pa_nil))) (nomark _)))))))), ?_⟩
    refine q_asg ev_c fun H1 e1 => q_asg ev_c fun H2 e2 => ?_
    have e12 := e1.trans e2
    refine ⟨.int n, rfl, n, rfl, hn, RaiseF.only fun d H3 hd e3 h3 => ?_⟩
    refine ⟨true, N.es, fun _ b hb => told_run2 T.x rfl h3 N.sd fun t H4 ht e4 h4 => ?_, fun z => Bool.noConfusion z⟩
    refine s_ret (v := .bl true) (ev_is (ev_andV (ev_isNon (ev_var rfl)) (b := PyData.eqv (.tuple [.int n, .bool true]) (.tuple [.int n, .bool true])) fun _ => ev_opU (ev_var rfl) (eu_tup (ea_cons (ev_var rfl) (ea_cons ev_c ea_nil)) (by show 2 ≤ 100000; decide)) fun p2 H6 h6 e6 => rv_eqD (dp_nb (e6 _ _ h4)) (dp_nb h6) (shaped_nb n) (shaped_nb n)) (by rw [eqv_self (shaped_nb n)]; rfl)) fun H6 e6 => k H6 (((e12.trans e3).trans e4).trans e6)
/-! ### _law_first_two -/
abbrev s_first2 : Stmt := top 65
abbrev nF2 : List PySem.Str := ["_law_steps", "_law_found", "_law_table"]
theorem scF2 : FnScope nF2 ["_law_steps"] (defScope s_first2) := ⟨rfl, rfl, rfl, by decide +kernel, rfl, by decide +kernel, by decide +kernel⟩
def spF2 : Sp := fun vs H Q _ => vs = [.int 8] ∧ RetR [z8, z81] H Q
theorem ok_first_two (W : Wd mg) (D : Dat K mg "_law_first_two" s_first2 ["_law_steps"] f fd) (D1 : Dat K mg "walk_tables" s_walk ["steps"] f1 fd1) (G1 : GF2 P w K mg base 2 f1 fd1 ["steps"] spWalk2) :
    FnOk P w K mg base (L2.CX P w) 4 f fd ["_law_steps"] spF2 := by
  refine D.F.okX scF2 (fun vs H Q E h => ?_) (fun cdv A outer s H vs Q E hr h => ?_)
  · obtain ⟨rfl, _⟩ := h
    rfl
  · obtain ⟨rfl, k⟩ := h
    have hr2 : Room 2 _ := hr.mono (by decide)
    refine ⟨_, pss_cons (ps_set (i := 1) scF2.nd rfl (Or.inl rfl) (pe_lst pa_nil))
      (pss_cons (ps_for2 (passes_of rfl) (pfirst2_call G1 hr2 rfl D1.g D1.k D1.b .nil (pa_cons (pv 0) pa_nil)) hr (qg_name (i := 2) scF2.nd rfl rfl)
        (qss_cons (qs_expr (qe_append (i := 1) (j := 2) rfl rfl (Or.inl rfl) rfl rfl (Or.inl rfl))) (qss_cons (qs_if (qt_leneq (i := 1) rfl rfl (Or.inl rfl) (by rfl) W.len) (qss_cons qs_break qss_nil) qss_nil) qss_nil)))
      (pss_one (ps_ret (pv 1)))), ?_⟩
    refine q_asgL (el_lst (vs := []) ea_nil (by decide)) fun l H1 hl e1 h1 => ?_
    refine ⟨.int 8, rfl, rfl, fun p q H2 hp hqp e2 hT hq => ?_⟩
    have hpl : l ≠ p := fun z => by rw [← z, h1] at hp; cases hp
    have h2 := e2 _ _ h1
    have hql : q ≠ l := fun z => by rw [z, h2] at hq; cases hq
    refine ⟨l, [], .ref q, rfl, rfl, h2, by rw [sizeLine_eq]; decide, ?_⟩
    refine ⟨l, [.ref q], rfl, upd_same, ?_⟩
    refine Eq.mpr (if_neg (c := (((1 : Nat) : Int) == 2) = true) (by decide)) ?_
    refine ⟨fun y H4 => ∃ q2, y = .ref q2 ∧ Ex (upd H2 l (.lst [.ref q])) H4 ∧ H4 q2 = some (.lst (nv z81)), ⟨by rw [upd_ne (Ne.symm hpl)]; exact hT, fun q2 H3 e3 h3 => ⟨q2, rfl, e3, h3⟩⟩, ?_⟩
    rintro y H4 ⟨q2, rfl, e4, h4⟩
    have hl4 := e4 _ _ (upd_same (H := H2) (a := l) (o := .lst [.ref q]))
    have hq4 : H4 q = some (.lst (nv z8)) := e4 _ _ (by rw [upd_ne hql]; exact hq)
    have hq2l : q2 ≠ l := fun z => by rw [z, hl4] at h4; cases h4
    refine ⟨l, [.ref q], .ref q2, rfl, rfl, hl4, by rw [sizeLine_eq]; show 1 < 16777216; decide, ?_⟩
    refine ⟨l, [.ref q, .ref q2], rfl, upd_same, ?_⟩
    refine Eq.mpr (if_pos (c := (((2 : Nat) : Int) == 2) = true) (by decide)) ?_
    have E4 : Ex H (upd H4 l (.lst [.ref q, .ref q2])) := fun b o z => by
      have z1 := e1 b o z
      have ne : b ≠ l := fun w => by rw [w, hl] at z; cases z
      rw [upd_ne ne]
      refine e4 b o ?_
      rw [upd_ne ne]
      exact e2 b o z1
    refine s_ret (ev_var rfl) fun H5 e5 => k l _ H5 hl (E4.trans e5) (e5 _ _ upd_same) ⟨rfl, fun i hi => ?_⟩
    match i, hi with
    | 0, _ => exact ⟨q, rfl, e5 _ _ (by rw [upd_ne hql]; exact hq4)⟩
    | 1, _ => exact ⟨q2, rfl, e5 _ _ (by rw [upd_ne hq2l]; exact h4)⟩
end
end Z
end
/-! Y19 -/
set_option linter.all false
set_option maxRecDepth 100000
set_option maxHeartbeats 4000000
noncomputable section
namespace Z
open PySem PySem.Spec PyProof.Rows L2 PySem.Froz Evl TS GenW

/-! ### texts as data -/
def dsT (ts : List PySem.Str) : List PyData := ts.map PyData.str
theorem dps_strs {K : PySem.W.Frag} {H : Hp} : ∀ ts : List PySem.Str, DpAll K H (ts.map V.str) (dsT ts)
  | [] => .nil
  | t :: ts => .cons (.str t) (dps_strs ts)
theorem lay_strs : ∀ {ts : List PySem.Str}, (∀ t ∈ ts, PyData.strOk t = true) → PyData.canLayAll0 (dsT ts) = true
  | [], _ => rfl
  | t :: ts, h => by
    have h1 : PyData.strOk t = true := h t List.mem_cons_self
    have h2 := lay_strs (ts := ts) fun u m => h u (List.mem_cons_of_mem _ m)
    show (PyData.canLay0 (.str t) && PyData.canLayAll0 (dsT ts)) = true
    rw [h2, Bool.and_true]
    simpa [PyData.canLay0] using h1
theorem depth_strs : ∀ ts : List PySem.Str, PyData.depthAll (dsT ts) = 0
  | [] => by simp [dsT, PyData.depthAll]
  | t :: ts => by
    have h := depth_strs ts
    unfold dsT at h ⊢
    rw [List.map_cons, PyData.depthAll, h]
    simp [PyData.depth]
theorem shaped_strs {ts : List PySem.Str} (h : ∀ t ∈ ts, PyData.strOk t = true) : SeqAt.shaped (.list (dsT ts)) = true := by
  have h1 := lay_strs h
  unfold SeqAt.shaped
  rw [Bool.and_eq_true]
  refine ⟨by simpa [PyData.canLay0] using h1, decide_eq_true ?_⟩
  show PyData.depthAll (dsT ts) + 1 ≤ 64
  rw [depth_strs]
  decide
theorem dp_strs {K : PySem.W.Frag} {H : Hp} {a : Addr} {ts : List PySem.Str} (h : SqL K H a (ts.map V.str)) : ∀ H1, Ex H H1 → Dp K H1 (.ref a) (.list (dsT ts)) := fun H1 e => .lst (ex_l e h) (dps_strs ts)
theorem eqv_nil (ts : List PySem.Str) : PyData.eqv (.list (dsT ts)) (.list []) = ts.isEmpty := by
  cases ts <;> rfl
theorem one_ok : ∀ c ∈ smallsS.cps.toList, PyData.strOk ⟨#[c]⟩ = true := by decide +kernel
theorem One.ok {x : PySem.Str} (h : One x) : PyData.strOk x = true := by
  obtain ⟨c, rfl, hc⟩ := h.sign
  exact one_ok c hc
theorem shaped_nil : SeqAt.shaped (.list []) = true := by decide +kernel
/-! ### list(text) -/
def rListT : List V → Hp → VK → Prop := fun xs H Q => ∃ z : PySem.Str, xs = [.str z] ∧ z.length ≤ 100000 ∧ ∀ l, H l = none → Q (.ref l) (upd H l (.lst (signsV z)))
theorem call_listT {X : Cx} (hc : X.calm = true) : CallR X (.type "list") rListT := by
  intro pins s σ H xs us Q I r h
  obtain ⟨z, rfl, hz, q⟩ := h
  obtain ⟨u, rfl, tk, rfl⟩ := vals1 r
  refine PySem.call_list_str (I.ok.hd hc) z tk (fun h' tk' acc c' k e hi => ?_) (sz_of hz)
  have ha : acc.size = z.cps.size := hi.1
  have rv : Vals (signsV z) acc.toList := vals_pt (by rw [signsV_len, Array.length_toList, ha]) fun j x u h1 h2 => by
    obtain ⟨c, tk, hc, rfl⟩ := hi.2 j u (by rw [← Array.getElem?_toList]; exact h2)
    rw [signsV_at hc] at h1
    obtain rfl := Option.some.inj h1
    exact ⟨tk, rfl⟩
  refine ⟨.ref s.heap.objs.size, _, I.laid (t' := tk') k (Nat.le_refl _) (show ObjOk X.prog X.w _ h' _ (.lst (signsV z)) from ⟨by rw [signsV_len]; exact sz_of hz, acc.toList, c', rv, by rw [e]⟩), rfl, q _ (I.hok.fresh (Nat.le_refl _))⟩
theorem el_listT {σ : L2.St} {H : Hp} {te : TE} {z : PySem.Str} (h : Ev te σ H (.str z)) (hz : z.length ≤ 100000) : EvL (tCB rListT (tCons te tNil)) σ H (signsV z) := fun H1 e Q q => h H1 e _ fun H2 e2 => ⟨z, rfl, hz, fun l hl => q l _ (fresh_back e2 hl) (e2.trans (Ex.new hl)) upd_same⟩

theorem era_perm {α : Type} : ∀ {l : List α} {i : Nat} (h : i < l.length), (l[i] :: l.eraseIdx i).Perm l
  | [], _, h => absurd h (Nat.not_lt_zero _)
  | x :: l, 0, _ => List.Perm.refl _
  | x :: l, i + 1, h => by
    have h' : i < l.length := Nat.lt_of_succ_lt_succ h
    exact (List.Perm.swap x l[i] (l.eraseIdx i)).trans (List.Perm.cons x (era_perm h'))
theorem era_map {α β : Type} (g : α → β) : ∀ (l : List α) (i : Nat), (l.map g).eraseIdx i = (l.eraseIdx i).map g
  | [], _ => rfl
  | x :: l, 0 => rfl
  | x :: l, i + 1 => congrArg (g x :: ·) (era_map g l i)
section
variable {P : Program} {w : World} {K : PySem.W.Frag} {mg : PySem.Str → Option Value} {base : Heap} {f f1 : Addr} {fd fd1 : FuncData}
/-! ### _law_pick -/
abbrev s_pick : Stmt := top 58
abbrev nPk : List PySem.Str := ["_law_source_here", "_law_pool", "_law_many", "_law_left", "_law_found", "_law_k"]
abbrev pPk : List PySem.Str := ["_law_source_here", "_law_pool", "_law_many"]
theorem scPk : FnScope nPk pPk (defScope s_pick) := ⟨rfl, rfl, rfl, by decide +kernel, rfl, by decide +kernel, by decide +kernel⟩
def spPick : Sp := fun vs H Q _ => ∃ (a : Addr) (n : Nat), vs = [.ref a, .str smallsS, .int 2] ∧ Src H a n ∧ n + 2 ≤ 2 ^ 40 ∧ ∀ p x y H2, H p = none → One x → One y → x ≠ y → ExB a H H2 → Src H2 a (n + 2) → H2 p = some (.lst [.str x, .str y]) → Q (.ref p) H2
theorem smalls_one : ∀ x ∈ TS.signs smallsS, One x := by
  intro x hx
  obtain ⟨c, hc, rfl⟩ := List.mem_map.mp hx
  show inS smallsS ⟨#[c]⟩ = true
  rw [inS_one]
  exact decide_eq_true hc
theorem smalls_nodup : (TS.signs smallsS).Nodup := by decide +kernel
theorem smalls_len : (TS.signs smallsS).length = 20 := by decide +kernel
theorem ok_pick (W : Wd mg) (D : Dat K mg "_law_pick" s_pick pPk f fd) (D1 : Dat K mg "_law_draw" s_draw ["_law_source_here", "_law_many"] f1 fd1) (G1 : FnOk P w K mg base (L2.CX P w) 1 f1 fd1 ["_law_source_here", "_law_many"] spDraw) :
    FnOk P w K mg base (L2.CX P w) 2 f fd pPk spPick := by
  refine D.F.okX scPk (fun vs H Q E h => ?_) (fun cdv A outer s H vs Q E hr h => ?_)
  · obtain ⟨a, n, rfl, _⟩ := h
    rfl
  · obtain ⟨a, n, rfl, hs, hn, k⟩ := h
    have hu := hr.units
    refine ⟨_, pss_cons (ps_set (i := 3) scPk.nd rfl (Or.inl rfl) (pe_callTy (call_listT rfl) rfl W.list PyProof.Rows.boot_list (pa_cons (pv 1) pa_nil)))
      (pss_cons (ps_set (i := 4) scPk.nd rfl (Or.inl rfl) (pe_lst pa_nil))
      (pss_cons (ps_for (passes_of rfl) rfl (pi_range1 rfl W.range (pa_cons (pv 2) pa_nil)) (pg_name (i := 5) scPk.nd rfl (Or.inl rfl))
        (pss_one (ps_if (pt_cmpR (op_neD hu) (pv 3) (pe_lst pa_nil) (nomark _)) (pss_one (ps_expr (pe_bm PySem.F.plainAttrs_list PySem.F.slot_list_append PySem.F.type_list_append mt_append (pv 4) (pa_cons (pe_bm PySem.F.plainAttrs_list PySem.F.slot_list_pop PySem.F.type_list_pop mt_popAt (pv 3) (pa_cons (pe_call G1 hr rfl D1.g D1.k D1.b .nil pas0 (pa_cons (pv 0) (pa_cons (pe_callB call_len_seq (by rfl) W.len PySem.boot_len (pa_cons (pv 3) pa_nil)) pa_nil))) pa_nil)) pa_nil)))) pss_nil)))
      (pss_one (ps_ret (pv 4))))), ?_⟩
    have sa : H a ≠ none := by obtain ⟨_, _, z, _⟩ := hs; rw [z]; exact fun q => nomatch q
    refine q_asgL (el_listT (z := smallsS) (ev_var rfl) (by decide +kernel)) fun l H1 hl e1 h1 => ?_
    refine q_asgL (el_lst (vs := []) ea_nil (by decide)) fun m H2 hm e2 h2 => ?_
    have hla : l ≠ a := fun z => sa (z ▸ hl)
    have hm0 : H m = none := fresh_back e1 hm
    have hma : m ≠ a := fun z => sa (z ▸ hm0)
    have hlm : l ≠ m := fun z => by rw [← z, h1] at hm; cases hm
    have e12 := e1.trans e2
    have gl : off H a l = none := by unfold off; rw [if_neg hla]; exact hl
    have gm : off H a m = none := by unfold off; rw [if_neg hma]; exact hm0
    refine q_forN (H := off H a) (xs := nums 0 2) (ei_rng1 (n := 2) (ea_cons (ev_var rfl) ea_nil) (by omega) (by omega)) (off_ex.trans e12) (fun i σ' H' => ∃ (F L : List PySem.Str) (u : Option V), σ' = [some (.ref a), some (.str smallsS), some (.int 2), some (.ref l), some (.ref m), u] ∧ H' l = some (.lst (L.map V.str)) ∧ H' m = some (.lst (F.map V.str)) ∧ F.length = i ∧ L.length + i = 20 ∧ (F ++ L).Nodup ∧ (∀ x ∈ F ++ L, One x) ∧ Src H' a (n + i) ∧ Ex (off H a) H')
      (fun H3 e3 => ⟨[], TS.signs smallsS, none, rfl, e3 _ _ (e2 _ _ h1), e3 _ _ h2, rfl, smalls_len, smalls_nodup, smalls_one, (hs.mono e12).mono e3, (off_ex.trans e12).trans e3⟩) ?_ ?_
    · rintro G i x σ' H' eG nG eG' hx ⟨F, L, u, rfl, hL, hF, lF, lL, nd, on, sr, ex⟩
      obtain ⟨hi, rfl⟩ := nums_at hx
      have Gl : G l = none := nG l gl (by rw [e2 _ _ h1]; exact fun z => nomatch z)
      have Gm : G m = none := nG m gm (by rw [h2]; exact fun z => nomatch z)
      have Ga : G a = none := nG a off_none fun z => by
        obtain ⟨_, _, y, _⟩ := hs.mono e12
        rw [y] at z; cases z
      have okL : ∀ t ∈ L, PyData.strOk t = true := fun t ht => (on t (List.mem_append_right _ ht)).ok
      have neL : L ≠ [] := fun z => by rw [z] at lL; simp at lL; omega
      refine s_when (b := true) (et_is (et_test (ev_opL (ev_var rfl) (el_lst (vs := []) ea_nil (by decide)) fun p H3 h3 e3 => rv_neD (d := .list (dsT L)) (e := .list []) (dp_strs (sq_of (e3 _ _ hL))) (fun H4 e4 => .lst (sq_of (e4 _ _ h3)) .nil) (shaped_strs okL) shaped_nil)) (by rw [eqv_nil]; cases L with | nil => exact absurd rfl neL | cons => rfl)) (fun _ H3 e3 => ?_) fun z => Bool.noConfusion z
      have hL3 := e3 _ _ hL
      have hF3 := e3 _ _ hF
      refine ⟨.ref m, rfl, .inl ⟨rfl, _, sq_of hF3⟩, .ref l, rfl, .inl ⟨rfl, _, sq_of hL3⟩, ?_⟩
      refine ed_draw (G := off H3 a) (i := 0) (m := (L.length : Int)) rfl (ev_is (ev_len (K := K) (ev_var rfl) (sq_of (off_at hla hL3))) (by simp)) (by omega) off_none (n + i) H3 off_ex (sr.mono e3) (by omega) _ fun v H4 ⟨r, hv, r0, r1⟩ e4 b4 s4 => ?_
      subst hv
      have rk : r.toNat < L.length := by omega
      have hL4 := b4 l _ hla hL3
      have hF4 := b4 m _ hma hF3
      refine ⟨l, L.map V.str, r, r.toNat, .str L[r.toNat], rfl, rfl, hL4, by omega, by omega, ?_, by simp [rk], ?_⟩
      · unfold seqIndex?
        have c1 : ¬ r < 0 := by omega
        have c2 : r < ((L.map V.str).length : Int) := by rw [List.length_map]; omega
        simp only [c1, if_false, r0, c2, decide_true, Bool.and_self, if_true]
      refine ⟨m, F.map V.str, .str L[r.toNat], rfl, rfl, by rw [upd_ne (Ne.symm hlm)]; exact hF4, by rw [List.length_map, lF, sizeLine_eq]; omega, ?_⟩
      have eH4 : Ex (off H3 a) H4 := e4
      have kG : ∀ {Z : Hp}, (∀ b o, b ≠ a → b ≠ l → b ≠ m → H3 b = some o → Z b = some o) → Ex G Z := fun {Z} hZ b o z => hZ b o (fun w => by rw [w, Ga] at z; cases z) (fun w => by rw [w, Gl] at z; cases z) (fun w => by rw [w, Gm] at z; cases z) (e3 _ _ (eG' b o z))
      have k0 : ∀ {Z : Hp}, (∀ b o, b ≠ a → b ≠ l → b ≠ m → H3 b = some o → Z b = some o) → Ex (off H a) Z := fun {Z} hZ b o z => hZ b o (fun w => by rw [w, off_none] at z; cases z) (fun w => by rw [w, gl] at z; cases z) (fun w => by rw [w, gm] at z; cases z) (e3 _ _ (ex b o z))
      have all : ∀ b o, b ≠ a → b ≠ l → b ≠ m → H3 b = some o → (upd (upd H4 l (.lst ((L.map V.str).eraseIdx r.toNat))) m (.lst (F.map V.str ++ [.str L[r.toNat]]))) b = some o := fun b o na nl nm z => by
        rw [upd_ne nm, upd_ne nl]; exact b4 b o na z
      have pm : (F ++ [L[r.toNat]] ++ L.eraseIdx r.toNat).Perm (F ++ L) := by
        rw [List.append_assoc]
        exact List.Perm.append_left F (era_perm rk)
      refine ⟨kG all, F ++ [L[r.toNat]], L.eraseIdx r.toNat, _, rfl, ?_, ?_, by simp [lF], ?_, pm.nodup_iff.mpr nd, fun x hx => on x (pm.mem_iff.mp hx), ?_, k0 all⟩
      · rw [upd_ne hlm, upd_same, era_map]
      · rw [upd_same]; simp
      · rw [List.length_eraseIdx, if_pos rk]; omega
      · have z := (s4.skip (b := l) (o := .lst ((L.map V.str).eraseIdx r.toNat)) hla).skip (b := m) (o := .lst (F.map V.str ++ [.str L[r.toNat]])) hma
        rw [Nat.add_assoc] at z
        exact z
    · rintro σ' H' eH ⟨F, L, u, rfl, hL, hF, lF, lL, nd, on, sr, ex⟩
      match F, lF with
      | [x, y], _ =>
        refine s_ret (ev_var rfl) fun H5 e5 => k m x y H5 hm0 (on x (by simp)) (on y (by simp)) (fun z => ?_) ((off_b ex).trans (.of e5)) (sr.mono e5) (e5 _ _ hF)
        subst z
        simp at nd
end
end Z
end
/-! Y20 -/
set_option linter.all false
set_option maxRecDepth 100000
set_option maxHeartbeats 4000000
noncomputable section
namespace Z
open PySem PySem.Spec PyProof.Rows L2 PySem.Froz Evl TS GenW

theorem le_iff {T : List Nat} (g : Grd T) {c d : Nat} (hc : c < T.length) (hd : d < T.length) : T.getD d 0 ≤ c ↔ d ≤ (backT T).getD c 0 := by
  constructor
  · exact (bk_of g hc).max d hd
  · intro h
    have h1 := g.ris.mono h (b_lt g hc)
    have h2 := tb_le g hc
    omega
theorem b_last {T : List Nat} (g : Grd T) : (backT T).getD (T.length - 1) 0 = T.length - 1 := by
  have p := g.ris.pos
  have h1 := t_lt g (c := T.length - 1) (by omega)
  have h2 := (bk_of g (c := T.length - 1) (by omega)).max (T.length - 1) (by omega) (by omega)
  have h3 := b_lt g (c := T.length - 1) (by omega)
  omega
/-- what the row before shows -/
def prevB (T : List Nat) (i : Nat) : Nat := if i = 0 then 0 else (backT T).getD (i - 1) 0
section
variable {P : Program} {w : World} {K : PySem.W.Frag} {mg : PySem.Str → Option Value} {base : Heap} {f f1 f2 f3 f4 : Addr} {fd fd1 fd2 fd3 fd4 : FuncData}
theorem ev_notN {σ : L2.St} {H : Hp} {te : TE} {x : V} (h : Ev te σ H x) : Ev (tNotN te) σ H (.bl (!decide (x = .non))) := fun H1 e Q q => h H1 e _ fun H2 e2 => q H2 e2
theorem et_neB {σ : L2.St} {H : Hp} {ta tb : TE} {a b : Bool} (ha : Ev ta σ H (.bl a)) (hb : Ev tb σ H (.bl b)) : EvT (tTest (tOp rNe ta tb)) σ H (a != b) := et_is (et_test (ev_op ha hb (rv_ne rfl))) (by cases a <;> cases b <;> rfl)
/-! ### _law_meets -/
abbrev s_meets : Stmt := top 66
abbrev nMt : List PySem.Str := ["_law_table", "_law_back", "_law_size_here", "_law_last", "_law_c", "_law_d"]
theorem scMt : FnScope nMt ["_law_table", "_law_back"] (defScope s_meets) := ⟨rfl, rfl, rfl, by decide +kernel, rfl, by decide +kernel, by decide +kernel⟩
def spMt (K : PySem.W.Frag) : Sp := fun vs H Q _ => ∃ (a b : Addr) (T : List Nat), vs = [.ref a, .ref b] ∧ SqL K H a (nv T) ∧ SqL K H b (nv (backT T)) ∧ Grd T ∧ RetV (.bl true) H Q
theorem sv_mt {a b : Addr} {T : List Nat} {H : Hp} (ha : SqL K H a (nv T)) (hb : SqL K H b (nv (backT T))) (g : Grd T) : SpV (spMt K) [.ref a, .ref b] H (.bl true) := fun H1 e Q q E => ⟨a, b, T, rfl, ex_l e ha, ex_l e hb, g, fun H2 e2 => q H2 e2⟩
theorem ok_meets (W : Wd mg) (L : Lb mg) (D : Dat K mg "_law_meets" s_meets ["_law_table", "_law_back"] f fd) (D1 : Dat K mg "_law_is_integer" s_isint ["_law_actual"] f1 fd1) (G1 : FnOk P w K mg base (L2.CX P w) 1 f1 fd1 ["_law_actual"] spIsInt) :
    FnOk P w K mg base (L2.CX P w) 2 f fd ["_law_table", "_law_back"] (spMt K) := by
  refine D.F.okX scMt (fun vs H Q E h => ?_) (fun cdv A outer s H vs Q E hr h => ?_)
  · obtain ⟨a, b, T, rfl, _⟩ := h
    rfl
  · obtain ⟨a, b, T, rfl, hA, hB, g, q⟩ := h
    have hz := g.len
    have hp := g.ris.pos
    refine ⟨_, pss_cons (ps_set (i := 2) scMt.nd rfl (Or.inl rfl) (pe_callB call_len_seq (by rfl) W.len PySem.boot_len (pa_cons (pv 0) pa_nil)))
      (pss_cons (ps_if (PW.pt (pw_or (pt_not (pt_val (pe_callB call_isi (by rfl) L.isi boot_isinstance (pa_cons (pv 1) (pa_cons (pe_bltn (v := .ty "list") rfl L.list bt_list rfl) pa_nil))))) (pw_or1 (pt_cmpR op_ne (pe_callB call_len_seq (by rfl) W.len PySem.boot_len (pa_cons (pv 1) pa_nil)) (pv 2) (nomark _))))) (pss_one (ps_ret pe_bl)) pss_nil)
      (pss_cons (ps_set (i := 3) scMt.nd rfl (Or.inl rfl) pe_int)
      (pss_cons (ps_for (passes_of rfl) rfl (pi_range1 rfl W.range (pa_cons (pv 2) pa_nil)) (pg_name (i := 4) scMt.nd rfl (Or.inl rfl))
        (pss_cons (ps_if (PW.pt (pw_or (pt_not (pt_val (pe_call G1 hr rfl D1.g D1.k D1.b .nil pas0 (pa_cons (pe_ix ix_list (pv 1) (pv 4) (fun _ _ => rfl)) pa_nil)))) (pw_or (pt_cmpR op_lt (pe_ix ix_list (pv 1) (pv 4) (fun _ _ => rfl)) (pv 3) (nomark _)) (pw_or1 (pt_cmpR op_ge (pe_ix ix_list (pv 1) (pv 4) (fun _ _ => rfl)) (pv 2) (nomark _)))))) (pss_one (ps_ret pe_bl)) pss_nil)
        (pss_cons (ps_set (i := 3) scMt.nd rfl (Or.inl rfl) (pe_ix ix_list (pv 1) (pv 4) (fun _ _ => rfl)))
        (pss_one (ps_for (passes_of rfl) rfl (pi_range1 rfl W.range (pa_cons (pv 2) pa_nil)) (pg_name (i := 5) scMt.nd rfl (Or.inl rfl))
          (pss_one (ps_if (pt_cmpR op_ne (pe_cmpR op_le (pe_ix ix_list (pv 0) (pv 5) (fun _ _ => rfl)) (pv 4) (nomark _)) (pe_cmpR op_le (pv 5) (pv 3) (nomark _)) (nomark _)) (pss_one (ps_ret pe_bl)) pss_nil)))))))
      (pss_one (ps_ret (pe_cmpR op_eq (pv 3) (pe_op op_sub (pv 2) pe_int) (nomark _))))))), ?_⟩
    refine q_asg (ev_lenN' (ns := T) (ev_var rfl) hA) fun H1 e1 => ?_
    refine q_when (b := false) (et_is (et_or (a := false) (b := false) (et_is (et_not (et_B (ev_isi (K := K) (ev_var rfl) ev_c (.ty "list") (fun H2 e => ty_list (ex_l (e1.trans e) hB)) (kit_ty (r := true) (by decide +kernel))))) rfl) fun _ => et_is (ev_neI (ev_lenN' (ns := backT T) (ev_var rfl) (ex_l e1 hB)) (ev_var rfl)) (by simp [back_len])) rfl) (fun z => Bool.noConfusion z) fun _ H2 e2 => ?_
    refine q_asg ev_c fun H3 e3 => ?_
    have e03 := (e1.trans e2).trans e3
    refine q_forI (H := H3) (xs := nums 0 (T.length : Int).toNat) (ei_rng1 (ea_cons (ev_var rfl) ea_nil) (by omega) (by omega)) (Ex.refl H3) (fun G i σ' H' => (∃ v4 v5, σ' = [some (.ref a), some (.ref b), some (.int (T.length : Int)), some (.int (prevB T i : Nat)), v4, v5]) ∧ Ex H3 H') (fun G H4 _ e4 _ => ⟨⟨none, none, rfl⟩, e4⟩) ?_ ?_
    · rintro G i x σ' H' eG eG' hx ⟨⟨v4, v5, rfl⟩, e4⟩
      obtain ⟨hi, rfl⟩ := nums_at hx
      have hi2 : i < T.length := by omega
      rw [Int.zero_add]
      have e0 : Ex H H' := e03.trans e4
      have eb : ∀ {v5 : Option V} {v3 : V} {H5 : Hp}, Ex H H5 → Ev (tOp (rIxL K) (tVar 1) (tVar 4)) [some (.ref a), some (.ref b), some (.int (T.length : Int)), some v3, some (.int (i : Int)), v5] H5 (.int ((backT T).getD i 0 : Nat)) := fun e => ev_atN (ns := backT T) (k := i) (ev_var rfl) (ev_var rfl) (ex_l e hB) (by rw [back_len]; exact hi2)
      have h1 : prevB T i ≤ (backT T).getD i 0 := by
        unfold prevB
        split
        · exact Nat.zero_le _
        · exact b_mono g (by omega) hi2
      have h2 := b_lt g hi2
      refine q_when (b := false) (et_is (et_or (a := false) (b := false) (et_is (et_not (et_B (ev_call (z := .bl true) (ea_cons (eb e0) ea_nil) sv_isint))) rfl) fun _ => et_is (et_or (a := false) (b := false) (et_is (ev_ltI (g := fun i j => decide (i < j)) (eb e0) (ev_var rfl)) (decide_eq_false (by omega))) fun _ => et_is (ev_ltI (g := fun i j => decide (i ≥ j)) (eb e0) (ev_var rfl)) (decide_eq_false (by omega))) rfl) rfl) (fun z => Bool.noConfusion z) fun _ H5 e5 => ?_
      refine q_asg (eb (e0.trans e5)) fun H6 e6 => ?_
      have e46 : Ex H3 H6 := (e4.trans e5).trans e6
      have eG6 : Ex G H6 := (eG'.trans e5).trans e6
      refine s_forI (H := H6) (xs := nums 0 (T.length : Int).toNat) (ei_rng1 (ea_cons (ev_var rfl) ea_nil) (by omega) (by omega)) (Ex.refl H6) (fun G2 d σ' H' => (∃ v5, σ' = [some (.ref a), some (.ref b), some (.int (T.length : Int)), some (.int ((backT T).getD i 0 : Nat)), some (.int (i : Int)), v5]) ∧ Ex H6 H') (fun G2 H7 _ e7 _ => ⟨⟨_, rfl⟩, e7⟩) ?_ ?_
      · rintro G2 d x σ' H' eG2 eG2' hx ⟨⟨v5, rfl⟩, e7⟩
        obtain ⟨hd, rfl⟩ := nums_at hx
        have hd2 : d < T.length := by omega
        rw [Int.zero_add]
        refine s_when (b := false) (et_is (et_neB (a := decide (T.getD d 0 ≤ i)) (b := decide (d ≤ (backT T).getD i 0)) (ev_is (ev_op (ev_atN (ns := T) (k := d) (ev_var rfl) (ev_var rfl) (ex_l ((e03.trans e46).trans e7) hA) hd2) (ev_var rfl) rv_I0) (by congr 1; exact decide_eq_decide.mpr (by omega))) (ev_is (ev_op (ev_var rfl) (ev_var rfl) rv_I0) (by congr 1; exact decide_eq_decide.mpr (by omega)))) (by rw [show decide (T.getD d 0 ≤ i) = decide (d ≤ (backT T).getD i 0) from decide_eq_decide.mpr (le_iff g hi2 hd2)]; simp)) (fun z => Bool.noConfusion z) fun _ H8 e8 => ⟨eG2'.trans e8, ⟨_, rfl⟩, e7.trans e8⟩
      · rintro G2 σ' H' eG2 eG2' ⟨⟨v5, rfl⟩, e7⟩
        exact ⟨eG6.trans e7, ⟨_, _, rfl⟩, e46.trans e7⟩
    · rintro G σ' H' eG eG' ⟨⟨v4, v5, rfl⟩, e4⟩
      have hl : prevB T (nums 0 (T.length : Int).toNat).length = T.length - 1 := by
        rw [nums_len, Int.toNat_natCast]
        unfold prevB
        rw [if_neg (by omega), b_last g]
      refine s_ret (v := .bl true) (ev_is (ev_op (ev_var rfl) (ev_op (ev_var rfl) ev_c rv_I0) (rv_eq rfl)) ?_) fun H5 e5 => q H5 ((e03.trans e4).trans e5)
      rw [hl, int_eq]
      congr 1
      exact decide_eq_true (by omega)
/-! ### _law_back_holds -/
abbrev s_bh : Stmt := top 67
abbrev nBH : List PySem.Str := ["_law_table", "_law_handed", "_law_back", "_law_refused", "_law_up", "_law_down", "_law_step", "_law_c"]
theorem scBH : FnScope nBH ["_law_table"] (defScope s_bh) := ⟨rfl, rfl, rfl, by decide +kernel, rfl, by decide +kernel, by decide +kernel⟩
def spBH (K : PySem.W.Frag) : Sp := fun vs H Q _ => ∃ (a : Addr) (T : List Nat), vs = [.ref a] ∧ SqL K H a (nv T) ∧ Ris T ∧ T.length ≤ 60 ∧ RetV (.bl true) H Q
theorem sv_bh {a : Addr} {T : List Nat} {H : Hp} (ha : SqL K H a (nv T)) (r : Ris T) (h : T.length ≤ 60) : SpV (spBH K) [.ref a] H (.bl true) := fun H1 e Q q E => ⟨a, T, rfl, ex_l e ha, r, h, fun H2 e2 => q H2 e2⟩
theorem ok_bh (W : Wd mg) (D : Dat K mg "_law_back_holds" s_bh ["_law_table"] f fd)
    (D1 : Dat K mg "_law_back_of" s_back_of ["_law_table"] f1 fd1) (G1 : FnOk P w K mg base (L2.CX P w) 4 f1 fd1 ["_law_table"] (spBO K))
    (D2 : Dat K mg "_law_meets" s_meets ["_law_table", "_law_back"] f2 fd2) (G2 : FnOk P w K mg base (L2.CX P w) 2 f2 fd2 ["_law_table", "_law_back"] (spMt K))
    (D3 : Dat K mg "put_on" s_put_on ["outer", "inner"] f3 fd3) (G3 : FnOk P w K mg base (L2.CX P w) 1 f3 fd3 ["outer", "inner"] (spPut K))
    (D4 : Dat K mg "_law_same_steps" s_same ["_law_actual", "_law_due"] f4 fd4) (G4 : FnOk P w K mg base (L2.CX P w) 2 f4 fd4 ["_law_actual", "_law_due"] (spSame K)) :
    FnOk P w K mg base (L2.CX P w) 5 f fd ["_law_table"] (spBH K) := by
  refine D.F.okX scBH (fun vs H Q E h => ?_) (fun cdv A outer s H vs Q E hr h => ?_)
  · obtain ⟨a, T, rfl, _⟩ := h
    rfl
  · obtain ⟨a, T, rfl, hA, R, hz, q⟩ := h
    have hu := hr.units
    have r1 : Room 1 _ := hr.mono (by decide)
    have r2 : Room 2 _ := hr.mono (by decide)
    have comp : ∀ (X : Cx), True := fun _ => trivial
    refine ⟨_, pss_cons (ps_set (i := 1) scBH.nd rfl (Or.inl rfl) (pe_callTy call_list_of rfl W.list PyProof.Rows.boot_list (pa_cons (pv 0) pa_nil)))
      (pss_cons (ps_asg (pe_call G1 hr rfl D1.g D1.k D1.b .nil pas0 (pa_cons (pv 1) pa_nil)) (pg_tup rfl (pgs_cons (pg_name (i := 2) scBH.nd rfl (Or.inr rfl)) (pgs_cons (pg_name (i := 3) scBH.nd rfl (Or.inl rfl)) pgs_nil))))
      (pss_cons (ps_if (pt_cmpR (op_neD hu) (pv 1) (pv 0) (nomark _)) (pss_one (ps_ret pe_bl)) pss_nil)
      (pss_cons (ps_if (pt_cmpR op_gt (pe_ix ix_list (pv 0) pe_int (fun _ _ => rfl)) pe_int (nomark _)) (pss_one (ps_ret (pe_and (pe_cmpR op_isN1 (pv 2) pe_non (nomark _)) (pe_one (pe_cmpR (op_eqD hu) (pv 3) (pe_tup (pa_cons pe_str (pa_cons pe_bl pa_nil))) (nomark _)))))) pss_nil)
      (pss_cons (ps_if (PW.pt (pw_or (pt_cmp (pc_notN (pv 3))) (pw_or1 (pt_not (pt_val (pe_call G2 r2 rfl D2.g D2.k D2.b .nil pas0 (pa_cons (pv 0) (pa_cons (pv 2) pa_nil)))))))) (pss_one (ps_ret pe_bl)) pss_nil)
      (pss_cons (ps_set (i := 4) scBH.nd rfl (Or.inl rfl) (pe_call G3 r1 rfl D3.g D3.k D3.b .nil pas0 (pa_cons (pv 2) (pa_cons (pv 0) pa_nil))))
      (pss_cons (ps_set (i := 5) scBH.nd rfl (Or.inl rfl) (pe_call G3 r1 rfl D3.g D3.k D3.b .nil pas0 (pa_cons (pv 0) (pa_cons (pv 2) pa_nil))))
      (pss_cons (ps_if (pt_not (pt_val (pe_call G4 r2 rfl D4.g D4.k D4.b .nil pas0 (pa_cons (pv 4) (pa_cons (pe_l1 (own := [("_law_step", 6)]) (g := gName 6) (te := tOp (rIxL K) (tVar 2) (tVar 6)) rfl scBH.nd (pi_list (pv 0)) (blkOk_by (N := nBH) (sc := defScope s_bh) (by decide +kernel))
          (fun _ _ _ _ _ => pg_name (i := 6) scBH.nd rfl (Or.inl rfl)) (fun _ _ _ _ _ => pts_nil) (fun _ _ _ _ _ => pe_ix ix_list (pv 2) (pv 6) (fun _ _ => rfl))) pa_nil))))) (pss_one (ps_ret pe_bl)) pss_nil)
      (pss_cons (ps_if (pt_not (pt_val (pe_call G4 r2 rfl D4.g D4.k D4.b .nil pas0 (pa_cons (pv 5) (pa_cons (pe_l1 (own := [("_law_step", 6)]) (g := gName 6) (te := tOp (rIxL K) (tVar 0) (tVar 6)) rfl scBH.nd (pi_list (pv 2)) (blkOk_by (N := nBH) (sc := defScope s_bh) (by decide +kernel))
          (fun _ _ _ _ _ => pg_name (i := 6) scBH.nd rfl (Or.inl rfl)) (fun _ _ _ _ _ => pts_nil) (fun _ _ _ _ _ => pe_ix ix_list (pv 0) (pv 6) (fun _ _ => rfl))) pa_nil))))) (pss_one (ps_ret pe_bl)) pss_nil)
      (pss_cons (ps_for (passes_of rfl) rfl (pi_range1 rfl W.range (pa_cons (pe_callB call_len_seq (by rfl) W.len PySem.boot_len (pa_cons (pv 0) pa_nil)) pa_nil)) (pg_name (i := 7) scBH.nd rfl (Or.inl rfl))
        (pss_one (ps_if (PW.pt (pw_or (pt_cmpR op_lt (pe_ix ix_list (pv 4) (pv 7) (fun _ _ => rfl)) (pv 7) (nomark _)) (pw_or1 (pt_cmpR op_gt (pe_ix ix_list (pv 5) (pv 7) (fun _ _ => rfl)) (pv 7) (nomark _))))) (pss_one (ps_ret pe_bl)) pss_nil)))
      (pss_one (ps_ret (pe_and (pe_call G4 r2 rfl D4.g D4.k D4.b .nil pas0 (pa_cons (pe_call G3 r1 rfl D3.g D3.k D3.b .nil pas0 (pa_cons (pv 0) (pa_cons (pv 4) pa_nil))) (pa_cons (pv 0) pa_nil)))
          (pe_one (pe_call G4 r2 rfl D4.g D4.k D4.b .nil pas0 (pa_cons (pe_call G3 r1 rfl D3.g D3.k D3.b .nil pas0 (pa_cons (pv 2) (pa_cons (pv 5) pa_nil))) (pa_cons (pv 2) pa_nil)))))))))))))))), ?_⟩
    have hp := R.pos
    refine q_asgL (el_list (K := K) (ev_var rfl) hA) fun l H1 hl e1 h1 => ?_
    have neH : ∀ {σ : L2.St} {H2 : Hp}, Ex H1 H2 → σ[1]? = some (some (.ref l)) → σ[0]? = some (some (.ref a)) → EvT (tTest (tOp (rNeD K) (tVar 1) (tVar 0))) σ H2 false := fun e s1 s0 => ev_neD (K := K) (U := T) (ev_var s1) (ev_var s0) (dp_nums (sq_of (e _ _ h1))) (dp_nums (ex_l (e1.trans e) hA))
    refine ⟨.ref l, rfl, l, T, rfl, sq_of h1, by omega, hp, fun g0 p b H2 e2 h2 hb => ?_, fun g0 p t H2 e2 h2 ht => ?_⟩
    · have g : Grd T := ⟨R, g0, hz⟩
      refine ⟨p, _, rfl, st_of h2, rfl, _, _, rfl, _, _, rfl, rfl, ?_⟩
      have e02 := e1.trans e2
      have hA2 := ex_l e02 hA
      refine q_when (b := false) (neH e2 rfl rfl) (fun z => Bool.noConfusion z) fun _ H3 e3 => ?_
      have hA3 := ex_l e3 hA2
      refine q_when (b := false) (et_is (ev_ltI (g := fun i j => decide (i > j)) (ev_atN (ns := T) (k := 0) (ev_var rfl) ev_c hA3 hp) ev_c) (decide_eq_false (by omega))) (fun z => Bool.noConfusion z) fun _ H4 e4 => ?_
      have hA4 := ex_l e4 hA3
      have hb4 := e4 _ _ (e3 _ _ hb)
      refine q_when (b := false) (et_is (et_or (a := false) (b := false) (et_is (et_B (ev_notN (ev_var rfl))) rfl) fun _ => et_is (et_not (et_B (ev_call (z := .bl true) (ea_cons (ev_var rfl) (ea_cons (ev_var rfl) ea_nil)) (sv_mt (K := K) hA4 (sq_of hb4) g)))) rfl) rfl) (fun z => Bool.noConfusion z) fun _ H5 e5 => ?_
      have hA5 := ex_l e5 hA4
      have hb5 := e5 _ _ hb4
      have kT : ∀ k ∈ T, k < (backT T).length := fun k hk => by
        rw [back_len]; exact g.tb.lt k hk
      have kB : ∀ k ∈ backT T, k < T.length := fun k hk => g.backTb.lt k hk
      refine q_asgL (el_call (ea_cons (ev_var rfl) (ea_cons (ev_var rfl) ea_nil)) (sl_put (K := K) (sq_of hb5) hA5 (by omega) kT)) fun up H6 _ e6 h6 => ?_
      have hA6 := ex_l e6 hA5
      have hb6 := e6 _ _ hb5
      refine q_asgL (el_call (ea_cons (ev_var rfl) (ea_cons (ev_var rfl) ea_nil)) (sl_put (K := K) hA6 (sq_of hb6) (by rw [back_len]; omega) kB)) fun dn H7 _ e7 h7 => ?_
      have hA7 := ex_l e7 hA6
      have hb7 := e7 _ _ hb6
      have h67 := e7 _ _ h6
      have lu : (compT (backT T) T).length = T.length := comp_len _ _
      have ld : (compT T (backT T)).length = T.length := by rw [comp_len, back_len]
      refine q_when (b := false) (et_is (et_not (et_B (ev_sameR (K := K) (U := compT (backT T) T) (ev_var rfl) (sq_of h67) (el_put (P := P) (w := w) (j := 6) (vs := [6]) (o := backT T) (i := T) (ev_var rfl) (fun _ _ _ => ev_var rfl) (sq_of hb7) hA7 (by omega) kT (fun _ => rfl) fun _ => rfl) (by omega)))) rfl) (fun z => Bool.noConfusion z) fun _ H8 e8 => ?_
      have hA8 := ex_l e8 hA7
      have hb8 := e8 _ _ hb7
      have h68 := e8 _ _ h67
      have h78 := e8 _ _ h7
      refine q_when (b := false) (et_is (et_not (et_B (ev_sameR (K := K) (U := compT T (backT T)) (ev_var rfl) (sq_of h78) (el_put (P := P) (w := w) (j := 6) (vs := [6]) (o := T) (i := backT T) (ev_var rfl) (fun _ _ _ => ev_var rfl) hA8 (sq_of hb8) (by rw [back_len]; omega) kB (fun _ => rfl) fun _ => rfl) (by omega)))) rfl) (fun z => Bool.noConfusion z) fun _ H9 e9 => ?_
      have hA9 := ex_l e9 hA8
      have hb9 := e9 _ _ hb8
      have h69 := e9 _ _ h68
      have h79 := e9 _ _ h78
      have e09 : Ex H H9 := ((((((e02.trans e3).trans e4).trans e5).trans e6).trans e7).trans e8).trans e9
      refine q_forI (H := H9) (ei_lenN (ns := T) (ev_var rfl) hA9 (by omega)) (Ex.refl H9) (fun G i σ' H' => (∃ v, σ' = [some (.ref a), some (.ref l), some (.ref b), some .non, some (.ref up), some (.ref dn), none, v]) ∧ Ex H9 H') (fun G H2 _ e _ => ⟨⟨none, rfl⟩, e⟩) ?_ ?_
      · rintro G i y σ' H' eG eG' hy ⟨⟨v, rfl⟩, e⟩
        obtain ⟨hi, rfl⟩ := nums_at hy
        rw [Int.zero_add]
        have u1 : i ≤ (compT (backT T) T).getD i 0 := by rw [comp_at hi]; exact bt_ge g hi
        have u2 : (compT T (backT T)).getD i 0 ≤ i := by rw [comp_at (by rw [back_len]; exact hi)]; exact tb_le g hi
        refine s_when (b := false) (et_is (et_or (a := false) (b := false) (et_is (ev_ltI (g := fun i j => decide (i < j)) (ev_atN (ns := compT (backT T) T) (k := i) (ev_var rfl) (ev_var rfl) (sq_of (e _ _ h69)) (by omega)) (ev_var rfl)) (decide_eq_false (by omega))) fun _ => et_is (ev_ltI (g := fun i j => decide (i > j)) (ev_atN (ns := compT T (backT T)) (k := i) (ev_var rfl) (ev_var rfl) (sq_of (e _ _ h79)) (by omega)) (ev_var rfl)) (decide_eq_false (by omega))) rfl) (fun z => Bool.noConfusion z) fun _ H2 e2 => ⟨eG'.trans e2, ⟨_, rfl⟩, e.trans e2⟩
      · rintro G σ' H' eG eG' ⟨⟨v, rfl⟩, e⟩
        have hA' := ex_l e hA9
        have hb' := e _ _ hb9
        have ku : ∀ k ∈ compT (backT T) T, k < T.length := fun k hk => (Tb.comp g.backTb g.tb).lt k hk
        have kd : ∀ k ∈ compT T (backT T), k < (backT T).length := fun k hk => by rw [back_len]; exact (Tb.comp g.tb g.backTb).lt k hk
        refine s_ret (v := .bl true) (ev_is (ev_andV (a := true) (b := true) (ev_sameL (K := K) (U := T) ?_ (fun _ _ => ev_var rfl) hA' (by omega)) fun _ => ev_sameL (K := K) (U := backT T) ?_ (fun _ _ => ev_var rfl) (sq_of hb') (by rw [back_len]; omega)) rfl) fun H2 e2 => q H2 ((e09.trans e).trans e2)
        · have z := el_call (E := E0) (ta := tCons (tVar 0) (tCons (tVar 4) tNil)) (σ := [some (.ref a), some (.ref l), some (.ref b), some .non, some (.ref up), some (.ref dn), none, v]) (H := H') (dvs := []) (sp := spPut K) (vs := [.ref a, .ref up]) (ea_cons (ev_var rfl) (ea_cons (ev_var rfl) ea_nil)) (sl_put (K := K) hA' (sq_of (e _ _ h69)) (by omega) ku)
          rw [comp_tbt g] at z
          exact z
        · have z := el_call (E := E0) (ta := tCons (tVar 2) (tCons (tVar 5) tNil)) (σ := [some (.ref a), some (.ref l), some (.ref b), some .non, some (.ref up), some (.ref dn), none, v]) (H := H') (dvs := []) (sp := spPut K) (vs := [.ref b, .ref dn]) (ea_cons (ev_var rfl) (ea_cons (ev_var rfl) ea_nil)) (sl_put (K := K) (sq_of hb') (sq_of (e _ _ h79)) (by omega) kd)
          rw [comp_btb g] at z
          exact z
    · refine ⟨p, _, rfl, st_of h2, rfl, _, _, rfl, _, _, rfl, rfl, ?_⟩
      have e02 := e1.trans e2
      refine q_when (b := false) (neH e2 rfl rfl) (fun z => Bool.noConfusion z) fun _ H3 e3 => ?_
      have hA3 := ex_l (e02.trans e3) hA
      refine q_when (b := true) (et_is (ev_ltI (g := fun i j => decide (i > j)) (ev_atN (ns := T) (k := 0) (ev_var rfl) ev_c hA3 hp) ev_c) (decide_eq_true (by omega))) (fun _ H4 e4 => ?_) fun z => Bool.noConfusion z
      refine s_ret (v := .bl true) (ev_is (ev_andV (ev_isNon (ev_var rfl)) (b := PyData.eqv (.tuple [.str "", .bool true]) (.tuple [.str "", .bool true])) fun _ => ev_opU (ev_var rfl) (eu_tup (ea_cons ev_c (ea_cons ev_c ea_nil)) (by show 2 ≤ 100000; decide)) fun p2 H6 h6 e6 => rv_eqD (dp_sb (e6 _ _ (e4 _ _ (e3 _ _ ht)))) (dp_sb h6) shaped_sb shaped_sb) (by rw [eqv_self shaped_sb]; rfl)) fun H6 e6 => q H6 (((e02.trans e3).trans e4).trans e6)
end
end Z
end
/-! Y21 -/
set_option linter.all false
set_option maxRecDepth 100000
set_option maxHeartbeats 4000000
noncomputable section
namespace Z
open PySem PySem.Spec PyProof.Rows L2 PySem.Froz Evl TS GenW

theorem given_count (S : List Nat) (p : Nat → Bool) (v : Nat → V) : (given S.length (fun i => p (S.getD i 0)) v).length = (S.filter p).length := by
  unfold given
  rw [List.length_map]
  conv => rhs; rw [← nat_range S, List.filter_map, List.length_map]
  rfl
theorem Ris.sorted {T : List Nat} (R : Ris T) : T.Pairwise (· ≤ ·) := by
  rw [List.pairwise_iff_getElem]
  intro i j hi hj hij
  have z := R.mono (i := i) (j := j) (by omega) hj
  rw [List.getD_eq_getElem?_getD, List.getElem?_eq_getElem hi, List.getD_eq_getElem?_getD, List.getElem?_eq_getElem hj] at z
  exact z
theorem thr_count (k : Nat) : ∀ {T : List Nat}, T.Pairwise (· ≤ ·) → thr T k = (T.filter fun x => decide (x < k)).length
  | [], _ => rfl
  | x :: T, h => by
    rw [List.pairwise_cons] at h
    have ih := thr_count k h.2
    unfold thr at ih ⊢
    rw [List.findIdx_cons]
    by_cases hk : k ≤ x
    · have e : (x :: T).filter (fun x => decide (x < k)) = [] := by
        rw [List.filter_eq_nil_iff]
        intro y hy
        rcases List.mem_cons.mp hy with rfl | hy
        · simpa using hk
        · have := h.1 y hy
          simp only [decide_eq_true_eq]; omega
      rw [e]
      simp [hk]
    · rw [List.filter_cons]
      have hk2 : x < k := by omega
      simp only [hk, decide_false, cond_false, hk2, decide_true, if_true, List.length_cons]
      rw [ih]
theorem thr_countI {T : List Nat} (R : Ris T) (m : Int) : thr T m.toNat = (T.filter fun (x : Nat) => decide ((x : Int) < m)).length := by
  rw [thr_count _ R.sorted]
  congr 1
  refine List.filter_congr fun x _ => ?_
  exact decide_eq_decide.mpr (by omega)
/-! ### the lesser and the greater of two tables -/
section
variable {T U : List Nat} (g : Grd T) (h : Grd U) (hl : T.length = U.length)
include g h hl
theorem low_len : (lowT T U).length = T.length := by simp [lowT, hl]
theorem high_len : (highT T U).length = T.length := by simp [highT, hl]
theorem low_at {c : Nat} (hc : c < T.length) : (lowT T U).getD c 0 = min (T.getD c 0) (U.getD c 0) := zip_at hc (by omega)
theorem high_at {c : Nat} (hc : c < T.length) : (highT T U).getD c 0 = max (T.getD c 0) (U.getD c 0) := zip_at hc (by omega)
theorem low_grd : Grd (lowT T U) := by
  have n := low_len g h hl
  refine ⟨⟨by rw [n]; exact g.ris.pos, fun i hi => ?_, fun i hi => ?_⟩, ?_, by rw [n]; exact g.len⟩
  · rw [n] at hi
    rw [low_at g h hl (by omega), low_at g h hl hi]
    have := g.ris.up i hi
    have := h.ris.up i (by omega)
    omega
  · rw [n] at hi ⊢
    rw [low_at g h hl hi]
    have := g.ris.lt i hi
    omega
  · rw [low_at g h hl g.ris.pos, g.zero]; omega
theorem high_grd : Grd (highT T U) := by
  have n := high_len g h hl
  refine ⟨⟨by rw [n]; exact g.ris.pos, fun i hi => ?_, fun i hi => ?_⟩, ?_, by rw [n]; exact g.len⟩
  · rw [n] at hi
    rw [high_at g h hl (by omega), high_at g h hl hi]
    have := g.ris.up i hi
    have := h.ris.up i (by omega)
    omega
  · rw [n] at hi ⊢
    rw [high_at g h hl hi]
    have := g.ris.lt i hi
    have := h.ris.lt i (by omega)
    omega
  · rw [high_at g h hl g.ris.pos, g.zero, h.zero]; rfl
theorem hiB_at {c : Nat} (hc : c < T.length) : (highT (backT T) (backT U)).getD c 0 = max ((backT T).getD c 0) ((backT U).getD c 0) := zip_at (by rw [back_len]; exact hc) (by rw [back_len]; omega)
theorem loB_at {c : Nat} (hc : c < T.length) : (lowT (backT T) (backT U)).getD c 0 = min ((backT T).getD c 0) ((backT U).getD c 0) := zip_at (by rw [back_len]; exact hc) (by rw [back_len]; omega)
theorem back_low : backT (lowT T U) = highT (backT T) (backT U) := by
  have n := low_len g h hl
  have gl := low_grd g h hl
  refine ext_getD (by simp [back_len, highT, n, hl]) fun c hc => ?_
  rw [back_len, n] at hc
  have bt := b_lt g hc
  have bu := b_lt h (c := c) (by omega)
  rw [hiB_at g h hl hc]
  refine bk_eq gl (by rw [n]; exact hc) ⟨by rw [n]; omega, ?_, fun d hd hle => ?_⟩
  · rw [low_at g h hl (by omega)]
    rcases Nat.le_total ((backT U).getD c 0) ((backT T).getD c 0) with z | z
    · rw [Nat.max_eq_left z]
      have := tb_le g hc
      omega
    · rw [Nat.max_eq_right z]
      have := tb_le h (c := c) (by omega)
      omega
  · rw [n] at hd
    rw [low_at g h hl hd] at hle
    rcases Nat.le_total (T.getD d 0) (U.getD d 0) with z | z
    · have := (le_iff g hc hd).mp (by omega)
      omega
    · have := (le_iff h (c := c) (d := d) (by omega) (by omega)).mp (by omega)
      omega
theorem back_high : backT (highT T U) = lowT (backT T) (backT U) := by
  have n := high_len g h hl
  have gl := high_grd g h hl
  refine ext_getD (by simp [back_len, lowT, n, hl]) fun c hc => ?_
  rw [back_len, n] at hc
  have bt := b_lt g hc
  have bu := b_lt h (c := c) (by omega)
  rw [loB_at g h hl hc]
  refine bk_eq gl (by rw [n]; exact hc) ⟨by rw [n]; omega, ?_, fun d hd hle => ?_⟩
  · rw [high_at g h hl (by omega)]
    have z1 := (le_iff g hc (d := min ((backT T).getD c 0) ((backT U).getD c 0)) (by omega)).mpr (by omega)
    have z2 := (le_iff h (c := c) (d := min ((backT T).getD c 0) ((backT U).getD c 0)) (by omega) (by omega)).mpr (by omega)
    omega
  · rw [n] at hd
    rw [high_at g h hl hd] at hle
    have z1 := (le_iff g hc hd).mp (by omega)
    have z2 := (le_iff h (c := c) (d := d) (by omega) (by omega)).mp (by omega)
    omega
end
/-! ### lists of any numbers as data -/
def dZ (zs : List Int) : List PyData := zs.map PyData.int
theorem dps_Z {K : PySem.W.Frag} {H : Hp} : ∀ zs : List Int, DpAll K H (iv zs) (dZ zs)
  | [] => .nil
  | z :: zs => .cons (.int z) (dps_Z zs)
theorem lay_Z : ∀ zs : List Int, PyData.canLayAll0 (dZ zs) = true
  | [] => rfl
  | z :: zs => by
    show (PyData.canLay0 (.int z) && PyData.canLayAll0 (dZ zs)) = true
    rw [lay_Z zs]
    simp [PyData.canLay0]
theorem depth_Z : ∀ zs : List Int, PyData.depthAll (dZ zs) = 0
  | [] => by simp [dZ, PyData.depthAll]
  | z :: zs => by
    have h := depth_Z zs
    unfold dZ at h ⊢
    rw [List.map_cons, PyData.depthAll, h]
    simp [PyData.depth]
theorem shaped_Z (zs : List Int) : SeqAt.shaped (.list (dZ zs)) = true := by
  have h1 := lay_Z zs
  unfold SeqAt.shaped
  rw [Bool.and_eq_true]
  refine ⟨by simpa [PyData.canLay0] using h1, decide_eq_true ?_⟩
  show PyData.depthAll (dZ zs) + 1 ≤ 64
  rw [depth_Z]
  decide
theorem eqv_nilZ (zs : List Int) : PyData.eqv (.list (dZ zs)) (.list []) = zs.isEmpty := by cases zs <;> rfl
theorem RisZ.cons {zs : List Int} (h0 : zs ≠ []) (h : ∀ i, i < zs.length → (0 :: zs).getD i 0 ≤ zs.getD i 0 ∧ zs.getD i 0 < (zs.length : Int)) : RisZ zs := by
  have p : 0 < zs.length := List.length_pos_iff.mpr h0
  refine ⟨p, ?_, fun i hi => ?_, (h (zs.length - 1) (by omega)).2⟩
  · have := (h 0 p).1
    simpa using this
  · have := (h (i + 1) hi).1
    simpa using this
theorem RisZ.parts {zs : List Int} (r : RisZ zs) {i : Nat} (hi : i < zs.length) : (0 :: zs).getD i 0 ≤ zs.getD i 0 ∧ zs.getD i 0 < (zs.length : Int) := by
  constructor
  · match i with
    | 0 => simpa using r.zero
    | i + 1 => simpa using r.up i hi
  · have mono : ∀ d, i + d < zs.length → zs.getD i 0 ≤ zs.getD (i + d) 0 := by
      intro d
      induction d with
      | zero => intro _; exact Int.le_refl _
      | succ d ih =>
        intro hd
        have z1 := ih (by omega)
        have z2 := r.up (i + d) (by omega)
        have e : i + (d + 1) = i + d + 1 := by omega
        rw [e]
        omega
    have z1 := mono (zs.length - 1 - i) (by omega)
    have e : i + (zs.length - 1 - i) = zs.length - 1 := by omega
    rw [e] at z1
    have := r.last
    omega

section
variable {P : Program} {w : World} {K : PySem.W.Frag} {mg : PySem.Str → Option Value} {base : Heap} {f f1 f2 f3 f4 : Addr} {fd fd1 fd2 fd3 fd4 : FuncData}
theorem ei_rng2Z {σ : L2.St} {H : Hp} {ta : TA} {lo hi : Int} (h : EvA ta σ H [.int lo, .int hi]) (h1 : -100000 ≤ lo ∧ lo ≤ 100000) (h2 : -100000 ≤ hi ∧ hi ≤ 100000) : EvI (iRng2 ta) σ H (nums lo (hi - lo).toNat) := fun H1 e R q => h H1 e _ fun H2 e2 =>
  ⟨lo, hi, rfl, ⟨by omega, by omega, by omega, by omega⟩, q _ H2 H e2 (Ex.refl H) (e.trans e2) (fun _ n _ => n) goes_r⟩
theorem ev_lenNew {σ : L2.St} {H : Hp} {te : TE} {xs : List V} (h : EvL te σ H xs) : Ev (tCB (rLenS K) (tCons te tNil)) σ H (.int (xs.length : Int)) := fun H1 e Q q => h H1 e _ fun p H2 hp e2 h2 => ⟨p, xs, rfl, .inl (sq_of h2), q H2 e2⟩
/-! ### _law_thresholds_hold -/
abbrev s_th : Stmt := top 68
abbrev nTH : List PySem.Str := ["_law_table", "_law_least", "_law_found", "_law_step"]
theorem scTH : FnScope nTH ["_law_table"] (defScope s_th) := ⟨rfl, rfl, rfl, by decide +kernel, rfl, by decide +kernel, by decide +kernel⟩
def spTH (K : PySem.W.Frag) : Sp := fun vs H Q _ => ∃ (a : Addr) (T : List Nat), vs = [.ref a] ∧ SqL K H a (nv T) ∧ Ris T ∧ T.length ≤ 60 ∧ RetV (.bl true) H Q
theorem sv_th {a : Addr} {T : List Nat} {H : Hp} (ha : SqL K H a (nv T)) (r : Ris T) (h : T.length ≤ 60) : SpV (spTH K) [.ref a] H (.bl true) := fun H1 e Q q E => ⟨a, T, rfl, ex_l e ha, r, h, fun H2 e2 => q H2 e2⟩
theorem sv_thrI {a : Addr} {ns : List Nat} {m : Int} {H : Hp} (ha : SqL K H a (nv ns)) (hz : ns.length ≤ 1000) : SpV (spThrI K) [.ref a, .int m] H (.int (thr ns m.toNat : Nat)) := fun H1 e Q q E => ⟨a, ns, m, rfl, ex_l e ha, hz, fun H2 e2 => q H2 e2⟩
theorem ok_th (W : Wd mg) (D : Dat K mg "_law_thresholds_hold" s_th ["_law_table"] f fd)
    (D1 : Dat K mg "threshold" s_thr ["table", "least"] f1 fd1) (G1 : FnOk P w K mg base (L2.CX P w) 1 f1 fd1 ["table", "least"] (spThrI K))
    (D2 : Dat K mg "_law_is_integer" s_isint ["_law_actual"] f2 fd2) (G2 : FnOk P w K mg base (L2.CX P w) 1 f2 fd2 ["_law_actual"] spIsInt) :
    FnOk P w K mg base (L2.CX P w) 2 f fd ["_law_table"] (spTH K) := by
  refine D.F.okX scTH (fun vs H Q E h => ?_) (fun cdv A outer s H vs Q E hr h => ?_)
  · obtain ⟨a, T, rfl, _⟩ := h
    rfl
  · obtain ⟨a, T, rfl, hA, R, hz, q⟩ := h
    refine ⟨_, pss_cons (ps_for (passes_of rfl) rfl (pi_range2 rfl W.range (pa_cons (pe_un un_neg pe_int) (pa_cons (pe_op op_add (pe_callB call_len_seq (by rfl) W.len PySem.boot_len (pa_cons (pv 0) pa_nil)) pe_int) pa_nil))) (pg_name (i := 1) scTH.nd rfl (Or.inr rfl))
        (pss_cons (ps_set (i := 2) scTH.nd rfl (Or.inl rfl) (pe_call G1 hr rfl D1.g D1.k D1.b .nil pas0 (pa_cons (pv 0) (pa_cons (pv 1) pa_nil))))
        (pss_one (ps_if (PW.pt (pw_or (pt_not (pt_val (pe_call G2 hr rfl D2.g D2.k D2.b .nil pas0 (pa_cons (pv 2) pa_nil)))) (pw_or1 (pt_cmpR op_ne (pv 2) (pe_callB call_len_seq (by rfl) W.len PySem.boot_len (pa_cons (pe_l1 (own := [("_law_step", 3)]) (g := gName 3) (tt := tTest (tOp (rI0 fun i j => .bl (decide (i < j))) (tVar 3) (tVar 1))) (te := tVar 3) rfl scTH.nd (pi_list (pv 0)) (blkOk_by (N := nTH) (sc := defScope s_th) (by decide +kernel))
          (fun _ _ _ _ _ => pg_name (i := 3) scTH.nd rfl (Or.inl rfl)) (fun _ _ _ _ _ => pts_one (pt_cmpR op_lt (pv 3) (pv 1) (nomark _))) (fun _ _ _ _ _ => pv 3)) pa_nil)) (nomark _))))) (pss_one (ps_ret pe_bl)) pss_nil))))
      (pss_one (ps_ret pe_bl)), ?_⟩
    refine q_forI (H := H) (xs := nums (-1) ((T.length : Int) + 2 - (-1)).toNat) (ei_rng2Z (ea_cons ev_neg1 (ea_cons (ev_is (ev_op (ev_lenN' (ns := T) (ev_var rfl) hA) ev_c rv_I0) rfl) ea_nil)) (by omega) (by omega)) (Ex.refl H) (fun G i σ' H' => (∃ v1 v2, σ' = [some (.ref a), v1, v2, none]) ∧ Ex H H') (fun G H2 _ e _ => ⟨⟨none, none, rfl⟩, e⟩) ?_ ?_
    · rintro G i y σ' H' eG eG' hy ⟨⟨v1, v2, rfl⟩, e⟩
      obtain ⟨hi, rfl⟩ := nums_at hy
      generalize (-1 + (i : Int)) = m
      have hA1 := ex_l e hA
      refine q_asg (ev_call (z := .int (thr T m.toNat : Nat)) (ea_cons (ev_var rfl) (ea_cons (ev_var rfl) ea_nil)) (sv_thrI (K := K) hA1 (by omega))) fun H2 e2 => ?_
      have hA2 := ex_l e2 hA1
      have gv : EvL (tKc P w .lst (iList K (tVar 0)) (gName 3) (tTest (tOp (rI0 fun i j => .bl (decide (i < j))) (tVar 3) (tVar 1))) (tVar 3) [3]) [some (.ref a), some (.int m), some (.int (thr T m.toNat : Nat)), none] H2 (given (nv T).length (fun i => decide (((T.getD i 0 : Nat) : Int) < m)) (fun i => V.int (T.getD i 0 : Nat))) := by
        refine (ek_kcF (P := P) (w := w) .lst (fun i => decide (((T.getD i 0 : Nat) : Int) < m)) (fun i => V.int (T.getD i 0 : Nat)) (tt := tTest (tOp (rI0 fun i j => .bl (decide (i < j))) (tVar 3) (tVar 1))) (te := tVar 3) (wi := iList K (tVar 0)) (j := 3) (vs := [3]) (σ := [some (.ref a), some (.int m), some (.int (thr T m.toNat : Nat)), none]) (H := H2) (ei_list (ev_var rfl) hA2) (by rw [List.length_map]; omega) (fun _ => trivial) (fun _ => rfl) (fun c x H6 e6 hx => ?_) fun c x H6 e6 hx hf => ?_).lst
        · obtain ⟨hc, rfl⟩ := nv_get hx
          exact ev_ltI (g := fun i j => decide (i < j)) (ev_var rfl) (ev_var rfl)
        · obtain ⟨hc, rfl⟩ := nv_get hx
          exact ev_var rfl
      have hcnt : (given (nv T).length (fun i => decide (((T.getD i 0 : Nat) : Int) < m)) (fun i => V.int (T.getD i 0 : Nat))).length = thr T m.toNat := by
        rw [List.length_map, given_count T (fun (x : Nat) => decide ((x : Int) < m)), thr_countI R]
      refine s_when (b := false) (et_is (et_or (a := false) (b := false) (et_is (et_not (et_B (ev_call (z := .bl true) (ea_cons (ev_var rfl) ea_nil) sv_isint))) rfl) fun _ => et_is (ev_neI (ev_var rfl) (ev_lenNew (K := K) gv)) (by rw [hcnt]; simp)) rfl) (fun z => Bool.noConfusion z) fun _ H3 e3 => ⟨(eG'.trans e2).trans e3, ⟨_, _, rfl⟩, (e.trans e2).trans e3⟩
    · rintro G σ' H' eG eG' ⟨⟨v1, v2, rfl⟩, e⟩
      exact s_ret ev_c fun H2 e2 => q H2 (e.trans e2)
/-! ### _law_rises -/
abbrev s_rs : Stmt := top 69
abbrev nRZ : List PySem.Str := ["_law_numbers", "_law_last", "_law_number"]
theorem scRZ : FnScope nRZ ["_law_numbers"] (defScope s_rs) := ⟨rfl, rfl, rfl, by decide +kernel, rfl, by decide +kernel, by decide +kernel⟩
theorem ok_rises (W : Wd mg) (D : Dat K mg "_law_rises" s_rs ["_law_numbers"] f fd) : FnOk P w K mg base (L2.CX P w) 1 f fd ["_law_numbers"] (spRisZ K) := by
  refine D.F.okX scRZ (fun vs H Q E h => ?_) (fun cdv A outer s H vs Q E hr h => ?_)
  · obtain ⟨a, zs, rfl, _⟩ := h
    rfl
  · obtain ⟨a, zs, rfl, hA, hz, q⟩ := h
    have hu := hr.units
    refine ⟨_, pss_cons (ps_set (i := 1) scRZ.nd rfl (Or.inl rfl) pe_int)
      (pss_cons (ps_for (passes_of rfl) rfl (pi_list (pv 0)) (pg_name (i := 2) scRZ.nd rfl (Or.inl rfl))
        (pss_cons (ps_if (PW.pt (pw_or (pt_cmpR op_lt (pv 2) (pv 1) (nomark _)) (pw_or1 (pt_cmpR op_ge (pv 2) (pe_callB call_len_seq (by rfl) W.len PySem.boot_len (pa_cons (pv 0) pa_nil)) (nomark _))))) (pss_one (ps_ret pe_bl)) pss_nil)
        (pss_one (ps_set (i := 1) scRZ.nd rfl (Or.inl rfl) (pv 2)))))
      (pss_one (ps_ret (pe_cmpR (op_neD hu) (pv 0) (pe_lst pa_nil) (nomark _))))), ?_⟩
    refine q_asg ev_c fun H1 e1 => ?_
    have hA1 := ex_l e1 hA
    refine q_forI (H := H1) (ei_list (ev_var rfl) hA1) (Ex.refl H1) (fun G i σ' H' => (∃ v, σ' = [some (.ref a), some (.int ((0 :: zs).getD i 0)), v]) ∧ Ex H1 H' ∧ ∀ j, j < i → (0 :: zs).getD j 0 ≤ zs.getD j 0 ∧ zs.getD j 0 < (zs.length : Int)) (fun G H2 _ e _ => ⟨⟨none, rfl⟩, e, fun j hj => absurd hj (Nat.not_lt_zero j)⟩) ?_ ?_
    · rintro G i y σ' H' eG eG' hy ⟨⟨v, rfl⟩, e, hj⟩
      obtain ⟨hi, rfl⟩ := iv_get hy
      refine q_when (b := decide (zs.getD i 0 < (0 :: zs).getD i 0) || decide (zs.getD i 0 ≥ (zs.length : Int))) (et_or (ev_ltI (g := fun i j => decide (i < j)) (ev_var rfl) (ev_var rfl)) fun _ => ev_ltI (g := fun i j => decide (i ≥ j)) (ev_var rfl) (ev_lenZ (zs := zs) (ev_var rfl) (ex_l e hA1))) (fun hb H2 e2 => ?_) fun hb H2 e2 => ?_
      · refine s_ret ev_c fun H3 e3 => ?_
        rw [← risB_no (zs := zs) fun r => by
          have := r.parts hi
          simp only [Bool.or_eq_true, decide_eq_true_eq] at hb
          omega]
        exact q H3 (((e1.trans e).trans e2).trans e3)
      · simp only [Bool.or_eq_false_iff, decide_eq_false_iff_not] at hb
        refine s_asg (ev_var rfl) fun H3 e3 => ⟨(eG'.trans e2).trans e3, ⟨some (.int (zs.getD i 0)), by rw [List.getD_cons_succ]; rfl⟩, (e.trans e2).trans e3, fun j hj2 => ?_⟩
        rcases Nat.lt_succ_iff_lt_or_eq.mp hj2 with h | h
        · exact hj j h
        · subst h
          omega
    · rintro G σ' H' eG eG' ⟨⟨v, rfl⟩, e, hj⟩
      rw [List.length_map] at hj
      have fin : risB zs = !zs.isEmpty := by
        refine risB_eq (fun h => RisZ.cons (fun z => ?_) hj) fun h r => ?_
        · rw [z] at h; exact absurd h (by decide)
        · have := r.pos
          cases zs with
          | nil => exact absurd this (Nat.lt_irrefl 0)
          | cons => exact absurd h (by simp)
      refine s_ret (v := .bl (risB zs)) (ev_is (ev_opL (ev_var rfl) (el_lst (vs := []) ea_nil (by decide)) fun p H3 h3 e3 => rv_neD (d := .list (dZ zs)) (e := .list []) (fun H4 e4 => .lst (ex_l ((e.trans e3).trans e4) hA1) (dps_Z zs)) (fun H4 e4 => .lst (sq_of (e4 _ _ h3)) .nil) (shaped_Z zs) shaped_nil) (by rw [eqv_nilZ, fin])) fun H3 e3 => q H3 ((e1.trans e).trans e3)
end
end Z
end
/-! Y22 -/
set_option linter.all false
set_option maxRecDepth 100000
set_option maxHeartbeats 4000000
noncomputable section
namespace Z
open PySem PySem.Spec PyProof.Rows L2 PySem.Froz Evl TS GenW

section
variable {P : Program} {w : World} {K : PySem.W.Frag} {mg : PySem.Str → Option Value} {base : Heap} {f f1 f2 f3 f4 : Addr} {fd fd1 fd2 fd3 fd4 : FuncData} {σ : L2.St} {H : Hp} {ta tb : TE} {wi : TI} {a b : Addr} {T U : List Nat} {j : Nat} {vs : List Nat}
abbrev tAt (K : PySem.W.Frag) (ta : TE) (j : Nat) : TE := tCB rInt (tCons (tOp (rIxL K) ta (tVar j)) tNil)
/-- [min(int(one[c]), int(other[c])) for c in range(..)] -/
theorem el_minC (hi : EvI wi σ H (nums 0 T.length)) (hl : T.length = U.length) (hz : T.length ≤ 1000) (ha : ∀ x H1, Ex H H1 → Ev ta ((wipe σ vs).set j (some x)) H1 (.ref a)) (hb : ∀ x H1, Ex H H1 → Ev tb ((wipe σ vs).set j (some x)) H1 (.ref b)) (hA : SqL K H a (nv T)) (hB : SqL K H b (nv U))
    (hw : ∀ x, wipe ((wipe σ vs).set j (some x)) vs = wipe σ vs) (hv : ∀ x, ((wipe σ vs).set j (some x))[j]? = some (some x)) : EvL (tKc P w .lst wi (gName j) tYes (tCB rMin2 (tCons (tAt K ta j) (tCons (tAt K tb j) tNil))) vs) σ H (nv (lowT T U)) := by
  refine (ek_kc .lst (nv (lowT T U)) hi (by rw [nums_len]; simp [lowT, hl]) (by rw [nums_len]; omega) (fun _ _ => trivial) hw fun i x y H1 e hx hy => ?_).lst
  obtain ⟨h1, rfl⟩ := nums_at hx
  obtain ⟨h2, rfl⟩ := nv_get hy
  rw [Int.zero_add]
  refine ev_is (ev_min2 (ev_int (ev_atN (ns := T) (k := i) (ha _ H1 e) (ev_var (hv _)) (ex_l e hA) h1)) (ev_int (ev_atN (ns := U) (k := i) (hb _ H1 e) (ev_var (hv _)) (ex_l e hB) (by omega)))) ?_
  unfold lowT
  rw [zip_at h1 (by omega)]
theorem el_maxC (hi : EvI wi σ H (nums 0 T.length)) (hl : T.length = U.length) (hz : T.length ≤ 1000) (ha : ∀ x H1, Ex H H1 → Ev ta ((wipe σ vs).set j (some x)) H1 (.ref a)) (hb : ∀ x H1, Ex H H1 → Ev tb ((wipe σ vs).set j (some x)) H1 (.ref b)) (hA : SqL K H a (nv T)) (hB : SqL K H b (nv U))
    (hw : ∀ x, wipe ((wipe σ vs).set j (some x)) vs = wipe σ vs) (hv : ∀ x, ((wipe σ vs).set j (some x))[j]? = some (some x)) : EvL (tKc P w .lst wi (gName j) tYes (tCB rMax2 (tCons (tAt K ta j) (tCons (tAt K tb j) tNil))) vs) σ H (nv (highT T U)) := by
  refine (ek_kc .lst (nv (highT T U)) hi (by rw [nums_len]; simp [highT, hl]) (by rw [nums_len]; omega) (fun _ _ => trivial) hw fun i x y H1 e hx hy => ?_).lst
  obtain ⟨h1, rfl⟩ := nums_at hx
  obtain ⟨h2, rfl⟩ := nv_get hy
  rw [Int.zero_add]
  refine ev_is (ev_max2 (ev_int (ev_atN (ns := T) (k := i) (ha _ H1 e) (ev_var (hv _)) (ex_l e hA) h1)) (ev_int (ev_atN (ns := U) (k := i) (hb _ H1 e) (ev_var (hv _)) (ex_l e hB) (by omega)))) ?_
  unfold highT
  rw [zip_at h1 (by omega)]
/-- both are new lists -/
theorem ev_sameLL {U : List Nat} {E : XK} (h : EvL ta σ H (nv U)) (hb : EvL tb σ H (nv U)) (hz : U.length ≤ 1000) : Ev (tCall (spSame K) [] E (tCons ta (tCons tb tNil))) σ H (.bl true) := fun H1 e Q q =>
  h H1 e _ fun p H2 hp e2 h2 => hb H2 (e.trans e2) _ fun r H3 hr e3 h3 => ⟨p, r, U, rfl, sq_of (e3 _ _ h2), sq_of h3, hz, fun H4 e4 => q H4 ((e2.trans e3).trans e4)⟩
theorem ei_size {n : Nat} (h : Ev ta σ H (.int (n : Int))) (hz : n ≤ 3000) : EvI (iRng1 (tCons ta tNil)) σ H (nums 0 n) := by
  have z := ei_rng1 (ea_cons h ea_nil) (by omega) (by omega)
  rwa [Int.toNat_natCast] at z
theorem sl_two {g : List Nat → List Nat → List Nat} (ha : SqL K H a (nv T)) (hb : SqL K H b (nv U)) (hl : T.length = U.length) (hz : T.length ≤ 1000) : SpL (spTwo K g) [.ref a, .ref b] H (nv (g T U)) := fun H1 e Q q E => ⟨a, b, T, U, rfl, ex_l e ha, ex_l e hb, hl, hz, fun p H2 hp e2 h2 => q p H2 hp e2 h2⟩
/-! ### _law_two_hold -/
abbrev s_tw : Stmt := top 70
abbrev nTw : List PySem.Str := ["_law_one", "_law_other", "_law_size_here", "_law_low", "_law_c", "_law_high", "_law_first", "_law_second"]
theorem scTw : FnScope nTw ["_law_one", "_law_other"] (defScope s_tw) := ⟨rfl, rfl, rfl, by decide +kernel, rfl, by decide +kernel, by decide +kernel⟩
def spTw (K : PySem.W.Frag) : Sp := fun vs H Q _ => ∃ (a b : Addr) (T U : List Nat), vs = [.ref a, .ref b] ∧ SqL K H a (nv T) ∧ SqL K H b (nv U) ∧ Grd T ∧ Grd U ∧ T.length = U.length ∧ RetV (.bl true) H Q
theorem sv_tw (ha : SqL K H a (nv T)) (hb : SqL K H b (nv U)) (g : Grd T) (g' : Grd U) (hl : T.length = U.length) : SpV (spTw K) [.ref a, .ref b] H (.bl true) := fun H1 e Q q E => ⟨a, b, T, U, rfl, ex_l e ha, ex_l e hb, g, g', hl, fun H2 e2 => q H2 e2⟩
theorem ok_two_hold (W : Wd mg) (L : Lb mg) (D : Dat K mg "_law_two_hold" s_tw ["_law_one", "_law_other"] f fd)
    (D1 : Dat K mg "_law_same_steps" s_same ["_law_actual", "_law_due"] f1 fd1) (G1 : FnOk P w K mg base (L2.CX P w) 2 f1 fd1 ["_law_actual", "_law_due"] (spSame K))
    (D2 : Dat K mg "lesser_table" s_lesser ["one", "other"] f2 fd2) (G2 : FnOk P w K mg base (L2.CX P w) 1 f2 fd2 ["one", "other"] (spTwo K lowT))
    (D3 : Dat K mg "greater_table" s_greater ["one", "other"] f3 fd3) (G3 : FnOk P w K mg base (L2.CX P w) 1 f3 fd3 ["one", "other"] (spTwo K highT))
    (D4 : Dat K mg "back_table" s_back ["table"] f4 fd4) (G4 : FnOk P w K mg base (L2.CX P w) 2 f4 fd4 ["table"] (spBack K)) :
    FnOk P w K mg base (L2.CX P w) 3 f fd ["_law_one", "_law_other"] (spTw K) := by
  refine D.F.okX scTw (fun vs H Q E h => ?_) (fun cdv A outer s H vs Q E hr h => ?_)
  · obtain ⟨a, b, T, U, rfl, _⟩ := h
    rfl
  · obtain ⟨a, b, T, U, rfl, hA, hB, g, g', hl, q⟩ := h
    have r1 : Room 1 _ := hr.mono (by decide)
    have r2 : Room 2 _ := hr.mono (by decide)
    refine ⟨_, pss_cons (ps_set (i := 2) scTw.nd rfl (Or.inl rfl) (pe_callB call_len_seq (by rfl) W.len PySem.boot_len (pa_cons (pv 0) pa_nil)))
      (pss_cons (ps_setLc (i := 3) (own := [("_law_c", 4)]) (g := gName 4) (tt := tYes) (te := tCB rMin2 (tCons (tAt K (tVar 0) 4) (tCons (tAt K (tVar 1) 4) tNil))) rfl scTw.nd rfl rfl (sw_true rfl rfl rfl (by decide +kernel)) (pi_range1 rfl W.range (pa_cons (pv 2) pa_nil)) (blkOk_by (N := nTw) (sc := defScope s_tw) (by decide +kernel))
          (fun _ _ _ _ _ => pg_name (i := 4) scTw.nd rfl (Or.inl rfl)) (fun _ _ _ _ _ => pts_nil) (fun _ _ _ _ _ => pe_callB (call_min2 rfl) (by rfl) W.min boot_min2 (pa_cons (pe_callTy call_int1 rfl L.int PyProof.Rows.boot_int (pa_cons (pe_ix ix_list (pv 0) (pv 4) (fun _ _ => rfl)) pa_nil)) (pa_cons (pe_callTy call_int1 rfl L.int PyProof.Rows.boot_int (pa_cons (pe_ix ix_list (pv 1) (pv 4) (fun _ _ => rfl)) pa_nil)) pa_nil))))
      (pss_cons (ps_setLc (i := 5) (own := [("_law_c", 4)]) (g := gName 4) (tt := tYes) (te := tCB rMax2 (tCons (tAt K (tVar 0) 4) (tCons (tAt K (tVar 1) 4) tNil))) rfl scTw.nd rfl rfl (sw_true rfl rfl rfl (by decide +kernel)) (pi_range1 rfl W.range (pa_cons (pv 2) pa_nil)) (blkOk_by (N := nTw) (sc := defScope s_tw) (by decide +kernel))
          (fun _ _ _ _ _ => pg_name (i := 4) scTw.nd rfl (Or.inl rfl)) (fun _ _ _ _ _ => pts_nil) (fun _ _ _ _ _ => pe_callB (call_max2 rfl) (by rfl) W.max boot_max2 (pa_cons (pe_callTy call_int1 rfl L.int PyProof.Rows.boot_int (pa_cons (pe_ix ix_list (pv 0) (pv 4) (fun _ _ => rfl)) pa_nil)) (pa_cons (pe_callTy call_int1 rfl L.int PyProof.Rows.boot_int (pa_cons (pe_ix ix_list (pv 1) (pv 4) (fun _ _ => rfl)) pa_nil)) pa_nil))))
      (pss_cons (ps_if (PW.pt (pw_or (pt_not (pt_val (pe_call G1 r2 rfl D1.g D1.k D1.b .nil pas0 (pa_cons (pe_call G2 r1 rfl D2.g D2.k D2.b .nil pas0 (pa_cons (pv 0) (pa_cons (pv 1) pa_nil))) (pa_cons (pv 3) pa_nil))))) (pw_or1 (pt_not (pt_val (pe_call G1 r2 rfl D1.g D1.k D1.b .nil pas0 (pa_cons (pe_call G3 r1 rfl D3.g D3.k D3.b .nil pas0 (pa_cons (pv 0) (pa_cons (pv 1) pa_nil))) (pa_cons (pv 5) pa_nil)))))))) (pss_one (ps_ret pe_bl)) pss_nil)
      (pss_cons (ps_set (i := 6) scTw.nd rfl (Or.inr rfl) (pe_call G4 r2 rfl D4.g D4.k D4.b .nil pas0 (pa_cons (pv 0) pa_nil)))
      (pss_cons (ps_set (i := 7) scTw.nd rfl (Or.inr rfl) (pe_call G4 r2 rfl D4.g D4.k D4.b .nil pas0 (pa_cons (pv 1) pa_nil)))
      (pss_cons (ps_if (pt_not (pt_val (pe_call G1 r2 rfl D1.g D1.k D1.b .nil pas0 (pa_cons (pe_call G4 r2 rfl D4.g D4.k D4.b .nil pas0 (pa_cons (pv 3) pa_nil)) (pa_cons (pe_l1 (own := [("_law_c", 4)]) (g := gName 4) (te := tCB rMax2 (tCons (tAt K (tVar 6) 4) (tCons (tAt K (tVar 7) 4) tNil))) rfl scTw.nd (pi_range1 rfl W.range (pa_cons (pv 2) pa_nil)) (blkOk_by (N := nTw) (sc := defScope s_tw) (by decide +kernel))
          (fun _ _ _ _ _ => pg_name (i := 4) scTw.nd rfl (Or.inl rfl)) (fun _ _ _ _ _ => pts_nil) (fun _ _ _ _ _ => pe_callB (call_max2 rfl) (by rfl) W.max boot_max2 (pa_cons (pe_callTy call_int1 rfl L.int PyProof.Rows.boot_int (pa_cons (pe_ix ix_list (pv 6) (pv 4) (fun _ _ => rfl)) pa_nil)) (pa_cons (pe_callTy call_int1 rfl L.int PyProof.Rows.boot_int (pa_cons (pe_ix ix_list (pv 7) (pv 4) (fun _ _ => rfl)) pa_nil)) pa_nil)))) pa_nil))))) (pss_one (ps_ret pe_bl)) pss_nil)
      (pss_one (ps_ret (pe_call G1 r2 rfl D1.g D1.k D1.b .nil pas0 (pa_cons (pe_call G4 r2 rfl D4.g D4.k D4.b .nil pas0 (pa_cons (pv 5) pa_nil)) (pa_cons (pe_l1 (own := [("_law_c", 4)]) (g := gName 4) (te := tCB rMin2 (tCons (tAt K (tVar 6) 4) (tCons (tAt K (tVar 7) 4) tNil))) rfl scTw.nd (pi_range1 rfl W.range (pa_cons (pv 2) pa_nil)) (blkOk_by (N := nTw) (sc := defScope s_tw) (by decide +kernel))
          (fun _ _ _ _ _ => pg_name (i := 4) scTw.nd rfl (Or.inl rfl)) (fun _ _ _ _ _ => pts_nil) (fun _ _ _ _ _ => pe_callB (call_min2 rfl) (by rfl) W.min boot_min2 (pa_cons (pe_callTy call_int1 rfl L.int PyProof.Rows.boot_int (pa_cons (pe_ix ix_list (pv 6) (pv 4) (fun _ _ => rfl)) pa_nil)) (pa_cons (pe_callTy call_int1 rfl L.int PyProof.Rows.boot_int (pa_cons (pe_ix ix_list (pv 7) (pv 4) (fun _ _ => rfl)) pa_nil)) pa_nil)))) pa_nil))))))))))), ?_⟩
    have hz := g.len
    have ln := low_len g g' hl
    have hn := high_len g g' hl
    have gl := low_grd g g' hl
    have gh := high_grd g g' hl
    refine q_asg (ev_lenN' (ns := T) (ev_var rfl) hA) fun H1 e1 => ?_
    have hA1 := ex_l e1 hA
    have hB1 := ex_l e1 hB
    refine q_asgL (el_minC (P := P) (w := w) (K := K) (vs := [4]) (j := 4) (ei_size (ev_var rfl) (by omega)) hl (by omega) (fun _ _ _ => ev_var rfl) (fun _ _ _ => ev_var rfl) hA1 hB1 (fun _ => rfl) fun _ => rfl) fun lo H2 _ e2 h2 => ?_
    have hA2 := ex_l e2 hA1
    have hB2 := ex_l e2 hB1
    refine q_asgL (el_maxC (P := P) (w := w) (K := K) (vs := [4]) (j := 4) (ei_size (ev_var rfl) (by omega)) hl (by omega) (fun _ _ _ => ev_var rfl) (fun _ _ _ => ev_var rfl) hA2 hB2 (fun _ => rfl) fun _ => rfl) fun hi H3 _ e3 h3 => ?_
    have hA3 := ex_l e3 hA2
    have hB3 := ex_l e3 hB2
    have h23 := e3 _ _ h2
    refine q_when (b := false) (et_is (et_or (a := false) (b := false) (et_is (et_not (et_B (ev_sameL (K := K) (U := lowT T U) (el_call (ea_cons (ev_var rfl) (ea_cons (ev_var rfl) ea_nil)) (sl_two (K := K) (g := lowT) hA3 hB3 hl (by omega))) (fun _ _ => ev_var rfl) (sq_of h23) (by omega)))) rfl) fun _ => et_is (et_not (et_B (ev_sameL (K := K) (U := highT T U) (el_call (ea_cons (ev_var rfl) (ea_cons (ev_var rfl) ea_nil)) (sl_two (K := K) (g := highT) hA3 hB3 hl (by omega))) (fun _ _ => ev_var rfl) (sq_of h3) (by omega)))) rfl) rfl) (fun z => Bool.noConfusion z) fun _ H4 e4 => ?_
    have hA4 := ex_l e4 hA3
    have hB4 := ex_l e4 hB3
    have h24 := e4 _ _ h23
    have h34 := e4 _ _ h3
    refine q_asgL (el_call (ea_cons (ev_var rfl) ea_nil) (sl_back (K := K) hA4 g)) fun fi H5 _ e5 h5 => ?_
    refine q_asgL (el_call (ea_cons (ev_var rfl) ea_nil) (sl_back (K := K) (ex_l e5 hB4) g')) fun se H6 _ e6 h6 => ?_
    have h56 := e6 _ _ h5
    have h26 := e6 _ _ (e5 _ _ h24)
    have h36 := e6 _ _ (e5 _ _ h34)
    have bl := back_low g g' hl
    have bh := back_high g g' hl
    have hbl : (backT T).length = (backT U).length := by rw [back_len, back_len, hl]
    have sb1 : ∀ {H7 : Hp}, Ex H6 H7 → SpL (spBack K) [.ref lo] H7 (nv (highT (backT T) (backT U))) := fun e7 => by rw [← bl]; exact sl_back (sq_of (e7 _ _ h26)) gl
    have sb2 : ∀ {H7 : Hp}, Ex H6 H7 → SpL (spBack K) [.ref hi] H7 (nv (lowT (backT T) (backT U))) := fun e7 => by rw [← bh]; exact sl_back (sq_of (e7 _ _ h36)) gh
    have l1 : (highT (backT T) (backT U)).length ≤ 1000 := by rw [← bl, back_len]; omega
    have l2 : (lowT (backT T) (backT U)).length ≤ 1000 := by rw [← bh, back_len]; omega
    have sz : T.length = (backT T).length := (back_len T).symm
    refine q_when (b := false) (et_is (et_not (et_B (ev_sameLL (K := K) (U := highT (backT T) (backT U)) (el_call (ea_cons (ev_var rfl) ea_nil) (sb1 (Ex.refl _))) (el_maxC (P := P) (w := w) (K := K) (vs := [4]) (j := 4) (ei_size (n := (backT T).length) (ev_is (ev_var rfl) (by rw [back_len])) (by rw [back_len]; omega)) hbl (by rw [back_len]; omega) (fun _ _ _ => ev_var rfl) (fun _ _ _ => ev_var rfl) (sq_of h56) (sq_of h6) (fun _ => rfl) fun _ => rfl) l1))) rfl) (fun z => Bool.noConfusion z) fun _ H7 e7 => ?_
    refine s_ret (ev_sameLL (K := K) (U := lowT (backT T) (backT U)) (el_call (ea_cons (ev_var rfl) ea_nil) (sb2 e7)) (el_minC (P := P) (w := w) (K := K) (vs := [4]) (j := 4) (ei_size (n := (backT T).length) (ev_is (ev_var rfl) (by rw [back_len])) (by rw [back_len]; omega)) hbl (by rw [back_len]; omega) (fun _ _ _ => ev_var rfl) (fun _ _ _ => ev_var rfl) (sq_of (e7 _ _ h56)) (sq_of (e7 _ _ h6)) (fun _ => rfl) fun _ => rfl) l2) fun H8 e8 => q H8 (((((((e1.trans e2).trans e3).trans e4).trans e5).trans e6).trans e7).trans e8)
end
end Z
end
/-! Y23 -/
set_option linter.all false
set_option maxRecDepth 100000
set_option maxHeartbeats 4000000
noncomputable section
namespace Z
open PySem PySem.Spec PyProof.Rows L2 PySem.Froz Evl TS GenW

/-! ### two letters, told in a pair -/
theorem signs_mk {ys : List PySem.Str} (h : ∀ z ∈ ys, z.length = 1) : TS.signs ⟨(ys.map fun z => z.cps.getD 0 0).toArray⟩ = ys := by
  show ((ys.map fun z => z.cps.getD 0 0)).map (fun c => (⟨#[c]⟩ : PySem.Str)) = ys
  rw [List.map_map]
  conv => rhs; rw [← List.map_id ys]
  refine List.map_congr_left fun z hz => ?_
  obtain ⟨c, rfl⟩ := one_sign (h z hz)
  rfl
theorem inS_sign {pr z : PySem.Str} (h : z ∈ TS.signs pr) : inS pr z = true := by
  obtain ⟨c, hc, rfl⟩ := List.mem_map.mp h
  rw [inS_one]
  exact decide_eq_true hc
theorem told_of {x y : PySem.Str} {ys : List PySem.Str} (hx : One x) (hy : One y) (hxy : x ≠ y) (hp : ys.Perm [x, y]) (hs : sortedS ys = true) : ∃ pr, TS.signs pr = ys ∧ Told [(x, y)] pr := by
  have one : ∀ z ∈ ys, One z := fun z hz => by
    have := hp.mem_iff.mp hz
    simp only [List.mem_cons, List.not_mem_nil, or_false] at this
    rcases this with rfl | rfl
    · exact hx
    · exact hy
  have len1 : ∀ z ∈ ys, z.length = 1 := fun z hz => (one z hz).len
  have nd : ys.Nodup := hp.nodup_iff.mpr (by simp [hxy])
  obtain ⟨pr, e⟩ : ∃ pr, TS.signs pr = ys := ⟨_, signs_mk len1⟩
  have mx : x ∈ TS.signs pr := by rw [e]; exact hp.mem_iff.mpr (by simp)
  have my : y ∈ TS.signs pr := by rw [e]; exact hp.mem_iff.mpr (by simp)
  refine ⟨pr, e, ⟨?_, by show 1 ≤ 24; decide, ?_, ?_, ?_, ?_⟩⟩
  · intro r hr
    obtain rfl : r = (x, y) := by simpa using hr
    exact ⟨hx.part, hy.part⟩
  · intro c hc
    have : (⟨#[c]⟩ : PySem.Str) ∈ ys := by rw [← e]; exact List.mem_map.mpr ⟨c, hc, rfl⟩
    have z : inS smallsS ⟨#[c]⟩ = true := one _ this
    rw [inS_one] at z
    exact of_decide_eq_true z
  · have := signs_len pr
    have h2 := hp.length_eq
    rw [e, h2] at this
    simp at this
    omega
  · intro r hr
    obtain rfl : r = (x, y) := by simpa using hr
    exact .inr (.inr (by rw [inS_sign mx, inS_sign my]))
  · rw [e]
    exact ((wordOrd_one (n := 1) nd (sortedS_pw hs) len1).eq).symm
theorem ddP_one {r : Pr} : ddP [r] = [r] := by simp [ddP]
/-- the tables of the two letters -/
abbrev Ts2 (x y : PySem.Str) (T U : List Nat) : List LT := [(x, lowT T U), (y, T)]
section
variable {x y pr : PySem.Str} {T U : List Nat} (hx : One x) (hy : One y) (hxy : x ≠ y) (told : Told [(x, y)] pr) (hp : (TS.signs pr).Perm [x, y]) (g : Grd T) (g' : Grd U) (hl : T.length = U.length)
include hx hy hxy told hp g g' hl
theorem tab_x : tabT (Ts2 x y T U) x = lowT T U := tab_at (i := 0) (by simp [hxy]) rfl
theorem tab_y : tabT (Ts2 x y T U) y = T := tab_at (i := 1) (by simp [hxy]) rfl
theorem two_mem {z : PySem.Str} (h : z ∈ TS.signs pr) : z = x ∨ z = y := by
  have := hp.mem_iff.mp h
  simpa using this
theorem wok_two : WOk T.length (Ts2 x y T U) [(x, y)] pr := by
  have n := low_len g g' hl
  have gl := low_grd g g' hl
  have each : ∀ {p : LT → Prop}, p (x, lowT T U) → p (y, T) → ∀ e ∈ Ts2 x y T U, p e := fun {p} h1 h2 e he => by
    simp only [List.mem_cons, List.not_mem_nil, or_false] at he
    rcases he with rfl | rfl
    · exact h1
    · exact h2
  have mm : ∀ {z : PySem.Str}, z = x ∨ z = y → z ∈ (Ts2 x y T U).map (·.1) := fun h => by
    rcases h with rfl | rfl <;> simp
  refine ⟨g.ris.pos, g.len, each hx hy, each gl.ris g.ris, each n rfl, by simp [hxy], by show 2 ≤ 100; decide, told.ok, told.len, told.pd, told.pz, hp.nodup_iff.mpr (by simp [hxy]), fun d hd => ?_, fun r hr => ?_, fun l hl2 => mm (two_mem hx hy hxy told hp g g' hl hl2), fun r hr c hc => ?_, fun l hl2 => ?_⟩
  · have z := wordOrd_mem hd
    rcases List.mem_append.mp z with z | z
    · refine mm ?_
      unfold partsOf at z
      simp only [List.flatMap_cons, List.flatMap_nil, List.append_nil, List.mem_filter, List.mem_cons, List.not_mem_nil, or_false] at z
      exact z.1
    · exact mm (two_mem hx hy hxy told hp g g' hl z)
  · obtain rfl : r = (x, y) := by simpa using hr
    exact ⟨.inr (mm (.inl rfl)), .inr (mm (.inr rfl))⟩
  · obtain rfl : r = (x, y) := by simpa using hr
    unfold shownT
    rw [if_neg (one_ne1 hx), if_neg (one_ne1 hy), tab_x hx hy hxy told hp g g' hl, tab_y hx hy hxy told hp g g' hl, low_at g g' hl hc]
    omega
  · rcases two_mem hx hy hxy told hp g g' hl hl2 with rfl | rfl
    · rw [tab_x hx hy hxy told hp g g' hl]; exact gl.zero
    · rw [tab_y hx hy hxy told hp g g' hl]; exact g.zero
end
section
variable {P : Program} {w : World} {K : PySem.W.Frag} {mg : PySem.Str → Option Value} {base : Heap} {σ : L2.St} {H : Hp} {CF CW : Addr} {x y : PySem.Str}
abbrev rStr1 : List V → Hp → VK → Prop := fun xs H Q => ∃ a, xs = [V.str a] ∧ Q (.str a) H
abbrev rJoinS (K : PySem.W.Frag) : V → List V → Hp → VK → Prop := fun x xs H Q => ∃ a p, ∃ ys : List PySem.Str, x = .str a ∧ xs = [.ref p] ∧ (SqL K H p (ys.map V.str) ∨ SqT K H p (ys.map V.str)) ∧ (ys.map (·.length)).sum + ys.length * a.length ≤ 16777216 ∧ Q (.str (Txt.join a ys)) H
theorem step_lst1 {te : TE} {t2 : TA} {σ : L2.St} {H : Hp} {Q : List V → Hp → Prop} (h : te σ H fun x H1 => [x].length ≤ sizeLine ∧ ∀ p, H1 p = none → t2 σ (upd H1 p (.lst [x])) fun vs H2 => Q (.ref p :: vs) H2) : tCons (tLst (tCons te tNil)) t2 σ H Q := h
theorem step_m1 {te : TE} {r : V → List V → Hp → VK → Prop} {z : PySem.Str} {σ : L2.St} {H : Hp} {Q : List V → Hp → Prop} (h : te σ H fun y H2 => r (.str z) [y] H2 fun v H3 => Q [v] H3) : tCons (tM1 r (tC (.str z)) te) tNil σ H Q := ⟨⟨z, rfl⟩, h⟩
theorem step_cb1 {te : TE} {r : List V → Hp → VK → Prop} {σ : L2.St} {H : Hp} {Q : VK} (h : te σ H fun y H2 => r [y] H2 Q) : tCB r (tCons te tNil) σ H Q := h
/-- Facts.listed([(a, b)], "".join(sorted([str(d) for d in dials]))) -/
theorem evp_told {i j d k : Nat} {dl : Addr} {E2 : XK} {vs : List Nat} (hi : σ[i]? = some (some (.str x))) (hj : σ[j]? = some (some (.str y))) (hd : σ[d]? = some (some (.ref dl))) (hl : H dl = some (.lst [.str x, .str y])) (hx : One x) (hy : One y) (hxy : x ≠ y)
    (hw : ∀ z, wipe ((wipe σ vs).set k (some z)) vs = wipe σ vs) (hv : ∀ z, ((wipe σ vs).set k (some z))[k]? = some (some z)) :
    EvP (tSMeth CF (spListed K CF) [] E2 (tC (.ref CF)) (tCons (tLst (tCons (tTup (tCons (tVar i) (tCons (tVar j) tNil))) tNil)) (tCons (tM1 (rJoinS K) (tC (.str Str.empty)) (tCB (rSortedS K) (tCons (tKc P w .lst (iList K (tVar d)) (gName k) tYes (tCB rStr1 (tCons (tVar k) tNil)) vs) tNil))) tNil))) σ H
      (fun v H' => ∃ fa pr, v = .ref fa ∧ FAt CF H' fa [(x, y)] pr ∧ Told [(x, y)] pr ∧ (TS.signs pr).Perm [x, y]) := fun H1 e Q q => by
  refine ⟨rfl, ?_⟩
  refine step_lst1 ?_
  refine eu_tup (vs := [.str x, .str y]) (ea_cons (ev_var hi) (ea_cons (ev_var hj) ea_nil)) (by show 2 ≤ 100000; decide) H1 e _ fun t H2 ht e2 h2 => ?_
  refine ⟨by rw [sizeLine_eq]; show 1 ≤ 16777216; decide, fun r hr => ?_⟩
  have n3 : Ex H2 (upd H2 r (.lst [.ref t])) := Ex.new hr
  have hr3 : (upd H2 r (.lst [.ref t])) r = some (.lst [.ref t]) := upd_same
  generalize upd H2 r (.lst [.ref t]) = H3 at n3 hr3
  have e03 : Ex H H3 := (e.trans e2).trans n3
  refine step_m1 (step_cb1 ?_)
  refine (ek_kc (P := P) (w := w) (σ := σ) (H := H) (vs := vs) (j := k) (te := tCB rStr1 (tCons (tVar k) tNil)) (wi := iList K (tVar d)) .lst [.str x, .str y] (ei_list (ev_var hd) (sq_of hl)) rfl (by show 2 ≤ 3000; decide) (fun _ _ => trivial) hw fun m u v H4 e4 hu hv' => ?_).lst H3 e03 _ fun p H4 hp e4 h4 => ?_
  · have : u = v := Option.some.inj (hu.symm.trans hv')
    subst this
    intro H5 e5 Q5 q5
    have hs : ∃ z, u = .str z := by
      match m, hu with
      | 0, hu => exact ⟨x, (Option.some.inj hu).symm⟩
      | 1, hu => exact ⟨y, (Option.some.inj hu).symm⟩
    obtain ⟨z, rfl⟩ := hs
    exact ⟨.str z, hv _, z, rfl, q5 H5 (Ex.refl _)⟩
  refine ⟨p, [x, y], rfl, sq_of h4, by show 2 < 64; decide, fun ys s hpm hst hs => ?_⟩
  obtain ⟨pr, epr, told⟩ := told_of hx hy hxy hpm hst
  have n5 : Ex H4 (upd H4 s (.lst (ys.map V.str))) := Ex.new hs
  have hs5 : (upd H4 s (.lst (ys.map V.str))) s = some (.lst (ys.map V.str)) := upd_same
  generalize upd H4 s (.lst (ys.map V.str)) = H5 at n5 hs5
  refine ⟨Str.empty, s, ys, rfl, rfl, .inl (sq_of hs5), ?_, ?_⟩
  · rw [← epr, sum_ones _ signs_one', signs_len, show Str.empty.length = 0 from rfl]
    have := told.pz
    omega
  rw [← epr, join_text]
  have e35 : Ex H3 H5 := e4.trans n5
  refine ⟨r, pr, [.ref t], [(x, y)], rfl, sq_of (e35 _ _ hr3), ⟨rfl, fun m a b hm => ?_⟩, told, fun fa H6 hfa e6 hF => ?_⟩
  · match m, hm with
    | 0, hm =>
      have z := Option.some.inj hm
      rw [Prod.mk.injEq] at z
      obtain ⟨rfl, rfl⟩ := z
      exact ⟨t, rfl, e35 _ _ (n3 _ _ h2)⟩
  · rw [ddP_one] at hF
    exact q _ H6 (((e2.trans n3).trans e35).trans e6) ⟨fa, pr, rfl, hF, told, by rw [epr]; exact hpm⟩
end
end Z
end
/-! Y24 -/
set_option linter.all false
set_option maxRecDepth 100000
set_option maxHeartbeats 4000000
noncomputable section
namespace Z
open PySem PySem.Spec PyProof.Rows L2 PySem.Froz Evl TS GenW

theorem rv_cat2 {x y : PySem.Str} {H : Hp} (h : x.length + y.length ≤ 100000) : RV (fun x y H Q => ∃ i j, x = .str i ∧ y = .str j ∧ i.length + j.length ≤ sizeLine ∧ Q (.str (i ++ j)) H) (.str x) (.str y) H (.str (x ++ y)) := fun H1 _ _ q => ⟨x, y, rfl, rfl, sz_of h, q H1 (Ex.refl H1)⟩
theorem boot_str3 : bootBuiltins "str" = some (.type "str") := by decide +kernel
theorem q_dput {td ty tv : TE} {tz : TS} {D : Ends} {σ : L2.St} {H : Hp} (h : tv σ H fun v H1 => td σ H1 fun x H2 => ty σ H2 fun y H3 => ∃ a H4, x = .ref a ∧ DPut H3 a y v H4 ∧ tz D σ H4) : tSeq (sDPut td ty tv) tz D σ H := h
theorem q_newD {i : Nat} {tz : TS} {D : Ends} {σ : L2.St} {H : Hp} (h : ∀ p, H p = none → tz D (σ.set i (some (.ref p))) (upd H p (.dK []))) : tSeq (tAsg tDNewK (gName i)) tz D σ H := h
/-- what the law's world needs of the program -/
structure WorldFn (P : Program) (w : World) (K : PySem.W.Frag) (mg : PySem.Str → Option Value) (base : Heap) (CF CW : Addr) (mcF : Value) (f1 f2 f3 fL fW1 fT fH pL : Addr) (fd1 fd2 fd3 fdL fdW fdT fdH : FuncData) : Prop where
  W : Wd mg
  L : Lb mg
  str : mg "str" = none
  FC : FCls K mg CF
  WC : WCls K mg CW
  D1 : Dat K mg "_law_pick" s_pick pPk f1 fd1
  G1 : FnOk P w K mg base (L2.CX P w) 2 f1 fd1 pPk spPick
  D2 : Dat K mg "_law_meets" s_meets ["_law_table", "_law_back"] f2 fd2
  G2 : FnOk P w K mg base (L2.CX P w) 2 f2 fd2 ["_law_table", "_law_back"] (spMt K)
  D3 : Dat K mg "_law_same_steps" s_same ["_law_actual", "_law_due"] f3 fd3
  G3 : FnOk P w K mg base (L2.CX P w) 2 f3 fd3 ["_law_actual", "_law_due"] (spSame K)
  rF : ClX.CRead K CF mcF
  sL : SMet K CF mcF "listed" pL fL
  DL : DatD K "listed" "Facts.listed" s_listed [.str ""] [] ["pairs", "paired"] fL fdL
  GL : FnOk P w K mg base (L2.CX P w) 6 fL fdL ["pairs", "paired"] (spListed K CF)
  MW : Mk K CW fW1
  DW : DatD K "__init__" "World.__init__" s_winit [.non] [] pWI fW1 fdW
  GW : FnOk P w K mg base (L2.CX P w) 4 fW1 fdW pWI (spWI CF CW)
  mT : Meth K CW "table_of" fT
  DT : DatM K "table_of" "World.table_of" s_table_of ["self", "letter"] fT fdT
  GT : FnOk P w K mg base (L2.CX P w) 2 fT fdT ["self", "letter"] (spTO CW)
  mH : Meth K CW "head_table" fH
  DH : DatM K "head_table" "World.head_table" s_headT ["self", "head"] fH fdH
  GH : FnOk P w K mg base (L2.CX P w) 3 fH fdH ["self", "head"] (spHT CW)
abbrev s_wh : Stmt := top 71
abbrev nWH : List PySem.Str := ["_law_source_here", "_law_one", "_law_other", "_law_size_here", "_law_low", "_law_c", "_law_dials", "_law_a", "_law_b", "_law_told", "_law_dial", "_law_tables", "_law_world", "_law_small", "_law_big", "_law_up", "_law_down", "_law_step"]
abbrev pWH : List PySem.Str := ["_law_source_here", "_law_one", "_law_other"]
theorem scWH : FnScope nWH pWH (defScope s_wh) := ⟨rfl, rfl, rfl, by decide +kernel, rfl, by decide +kernel, by decide +kernel⟩
def spWH : Sp := fun vs H Q _ => ∃ (a b c : Addr) (n : Nat) (T U : List Nat), vs = [.ref a, .ref b, .ref c] ∧ Src H a n ∧ n + 2 ≤ 2 ^ 40 ∧ b ≠ a ∧ c ≠ a ∧ H b = some (.lst (nv T)) ∧ H c = some (.lst (nv U)) ∧ Grd T ∧ Grd U ∧ T.length = U.length ∧ ∀ H2, ExB a H H2 → Q (.bl true) H2
section
variable {P : Program} {w : World} {K : PySem.W.Frag} {mg : PySem.Str → Option Value} {base : Heap} {CF CW f f1 f2 f3 fL fW1 fT fH pL : Addr} {mcF : Value} {fd fd1 fd2 fd3 fdL fdW fdT fdH : FuncData}
theorem ok_wh (F : WorldFn P w K mg base CF CW mcF f1 f2 f3 fL fW1 fT fH pL fd1 fd2 fd3 fdL fdW fdT fdH) (D : Dat K mg "_law_world_holds" s_wh pWH f fd) : FnOk P w K mg base (L2.CX P w) 7 f fd pWH spWH := by
  have W := F.W
  have L := F.L
  refine D.F.okX scWH (fun vs H Q E h => ?_) (fun cdv A outer s H vs Q E hr h => ?_)
  · obtain ⟨a, b, c, n, T, U, rfl, _⟩ := h
    rfl
  · obtain ⟨a, b, c, n, T, U, rfl, hs, hn, nb, nc, hb, hc, g, g', hl, q⟩ := h
    have hu := hr.units
    have hu1 : (A.deeper (envOfC "_law_world_holds" (defScope s_wh) s.heap.objs.size f cdv)).units + 1 < cLine := by omega
    have r1 : Room 1 _ := hr.mono (by decide)
    have r2 : Room 2 _ := hr.mono (by decide)
    have r3 : Room 3 _ := hr.mono (by decide)
    have r5 : Room 5 _ := hr.mono (by decide)
    refine ⟨_, pss_cons (ps_set (i := 3) scWH.nd rfl (Or.inl rfl) (pe_callB call_len_seq (by rfl) W.len PySem.boot_len (pa_cons (pv 1) pa_nil)))
      (pss_cons (ps_set (i := 4) scWH.nd rfl (Or.inr rfl) (pe_l1 (own := [("_law_c", 5)]) (g := gName 5) (te := tCB rMin2 (tCons (tAt K (tVar 1) 5) (tCons (tAt K (tVar 2) 5) tNil))) rfl scWH.nd (pi_range1 rfl W.range (pa_cons (pv 3) pa_nil)) (blkOk_by (N := nWH) (sc := defScope s_wh) (by decide +kernel))
          (fun _ _ _ _ _ => pg_name (i := 5) scWH.nd rfl (Or.inl rfl)) (fun _ _ _ _ _ => pts_nil) (fun _ _ _ _ _ => pe_callB (call_min2 rfl) (by rfl) W.min boot_min2 (pa_cons (pe_callTy call_int1 rfl L.int PyProof.Rows.boot_int (pa_cons (pe_ix ix_list (pv 1) (pv 5) (fun _ _ => rfl)) pa_nil)) (pa_cons (pe_callTy call_int1 rfl L.int PyProof.Rows.boot_int (pa_cons (pe_ix ix_list (pv 2) (pv 5) (fun _ _ => rfl)) pa_nil)) pa_nil)))))
      (pss_cons (ps_set (i := 6) scWH.nd rfl (Or.inl rfl) (pe_call F.G1 r2 rfl F.D1.g F.D1.k F.D1.b .nil pas0 (pa_cons (pv 0) (pa_cons pe_str (pa_cons pe_int pa_nil)))))
      (pss_cons (ps_set (i := 7) scWH.nd rfl (Or.inl rfl) (pe_ix ix_list (pv 6) pe_int (fun _ _ => rfl)))
      (pss_cons (ps_set (i := 8) scWH.nd rfl (Or.inl rfl) (pe_ix ix_list (pv 6) pe_int (fun _ _ => rfl)))
      (pss_cons (ps_set (i := 9) scWH.nd rfl (Or.inl rfl) (pe_smeth (pe_glob (v := .ref CF) rfl F.FC.g rfl) F.rF F.sL F.GL hr F.DL.b .nil (pas0 (X := cxOf (L2.CX P w) P w K mg base nWH "_law_world_holds" (defScope s_wh) f cdv A outer s H E)) (pa_cons (pe_lst (pa_cons (pe_tup (pa_cons (pv 7) (pa_cons (pv 8) pa_nil))) pa_nil))
          (pa_cons (pe_join pe_str (pe_callB cr_sortedS (by rfl) W.sorted boot_sorted (pa_cons (pe_l1 (own := [("_law_dial", 10)]) (g := gName 10) (te := tCB rStr1 (tCons (tVar 10) tNil)) rfl scWH.nd (pi_list (pv 6)) (blkOk_by (N := nWH) (sc := defScope s_wh) (by decide +kernel))
            (fun _ _ _ _ _ => pg_name (i := 10) scWH.nd rfl (Or.inl rfl)) (fun _ _ _ _ _ => pts_nil) (fun _ _ _ _ _ => pe_callTy SkE.call_str_str rfl F.str boot_str3 (pa_cons (pv 10) pa_nil))) pa_nil))) pa_nil))))
      (pss_cons (ps_set (i := 11) scWH.nd rfl (Or.inl rfl) pe_dnewK)
      (pss_cons (ps_dput hu1 (pv 11) (pv 7) (pe_callTy call_list_of rfl W.list PyProof.Rows.boot_list (pa_cons (pv 4) pa_nil)) (by rfl))
      (pss_cons (ps_dput hu1 (pv 11) (pv 8) (pe_callTy call_list_of rfl W.list PyProof.Rows.boot_list (pa_cons (pv 1) pa_nil)) (by rfl))
      (pss_cons (ps_set (i := 12) scWH.nd rfl (Or.inl rfl) (pe_make F.MW F.GW r5 rfl F.WC.g F.DW.b .nil (pas0 (X := cxOf (L2.CX P w) P w K mg base nWH "_law_world_holds" (defScope s_wh) f cdv A outer s H E)) (pa_cons (pv 3) (pa_cons pe_dnewK (pa_cons (pv 11) (pa_cons (pv 9) pa_nil))))))
      (pss_cons (ps_set (i := 13) scWH.nd rfl (Or.inr rfl) (pe_meth (pv 12) F.WC.c F.mT F.GT r2 F.DT.b .nil (pas0 (X := cxOf (L2.CX P w) P w K mg base nWH "_law_world_holds" (defScope s_wh) f cdv A outer s H E)) (pa_cons (pe_upper (pv 7)) pa_nil)))
      (pss_cons (ps_set (i := 14) scWH.nd rfl (Or.inl rfl) (pe_meth (pv 12) F.WC.c F.mT F.GT r2 F.DT.b .nil (pas0 (X := cxOf (L2.CX P w) P w K mg base nWH "_law_world_holds" (defScope s_wh) f cdv A outer s H E)) (pa_cons (pe_upper (pv 8)) pa_nil)))
      (pss_cons (ps_if (PW.pt (pw_or (pt_not (pt_val (pe_call F.G2 r2 rfl F.D2.g F.D2.k F.D2.b .nil pas0 (pa_cons (pv 4) (pa_cons (pv 13) pa_nil))))) (pw_or1 (pt_not (pt_val (pe_call F.G2 r2 rfl F.D2.g F.D2.k F.D2.b .nil pas0 (pa_cons (pv 1) (pa_cons (pv 14) pa_nil)))))))) (pss_one (ps_ret pe_bl)) pss_nil)
      (pss_cons (ps_for (passes_of rfl) rfl (pi_range1 rfl W.range (pa_cons (pv 3) pa_nil)) (pg_name (i := 5) scWH.nd rfl (Or.inl rfl))
        (pss_one (ps_if (pt_cmpR op_gt (pe_ix ix_list (pv 14) (pv 5) (fun _ _ => rfl)) (pe_ix ix_list (pv 13) (pv 5) (fun _ _ => rfl)) (nomark _)) (pss_one (ps_ret pe_bl)) pss_nil)))
      (pss_cons (ps_if (pt_not (pt_val (pe_call F.G3 r2 rfl F.D3.g F.D3.k F.D3.b .nil pas0 (pa_cons (pe_meth (pv 12) F.WC.c F.mH F.GH r3 F.DH.b .nil (pas0 (X := cxOf (L2.CX P w) P w K mg base nWH "_law_world_holds" (defScope s_wh) f cdv A outer s H E)) (pa_cons (pe_op op_add_str (pe_op op_add_str (pv 7) (pe_upper (pv 7))) (pv 7)) pa_nil)) (pa_cons (pv 4) pa_nil))))) (pss_one (ps_ret pe_bl)) pss_nil)
      (pss_cons (ps_if (pt_not (pt_val (pe_call F.G3 r2 rfl F.D3.g F.D3.k F.D3.b .nil pas0 (pa_cons (pe_meth (pv 12) F.WC.c F.mH F.GH r3 F.DH.b .nil (pas0 (X := cxOf (L2.CX P w) P w K mg base nWH "_law_world_holds" (defScope s_wh) f cdv A outer s H E)) (pa_cons (pe_op op_add_str (pe_op op_add_str (pe_upper (pv 7)) (pv 7)) (pe_upper (pv 7))) pa_nil)) (pa_cons (pv 13) pa_nil))))) (pss_one (ps_ret pe_bl)) pss_nil)
      (pss_cons (ps_set (i := 15) scWH.nd rfl (Or.inl rfl) (pe_meth (pv 12) F.WC.c F.mH F.GH r3 F.DH.b .nil (pas0 (X := cxOf (L2.CX P w) P w K mg base nWH "_law_world_holds" (defScope s_wh) f cdv A outer s H E)) (pa_cons (pe_op op_add_str (pe_upper (pv 7)) (pv 7)) pa_nil)))
      (pss_cons (ps_set (i := 16) scWH.nd rfl (Or.inl rfl) (pe_meth (pv 12) F.WC.c F.mH F.GH r3 F.DH.b .nil (pas0 (X := cxOf (L2.CX P w) P w K mg base nWH "_law_world_holds" (defScope s_wh) f cdv A outer s H E)) (pa_cons (pe_op op_add_str (pv 7) (pe_upper (pv 7))) pa_nil)))
      (pss_one (ps_ret (pe_and (pe_call F.G3 r2 rfl F.D3.g F.D3.k F.D3.b .nil pas0 (pa_cons (pv 15) (pa_cons (pe_l1 (own := [("_law_step", 17)]) (g := gName 17) (te := tOp (rIxL K) (tVar 13) (tVar 17)) rfl scWH.nd (pi_list (pv 4)) (blkOk_by (N := nWH) (sc := defScope s_wh) (by decide +kernel))
          (fun _ _ _ _ _ => pg_name (i := 17) scWH.nd rfl (Or.inl rfl)) (fun _ _ _ _ _ => pts_nil) (fun _ _ _ _ _ => pe_ix ix_list (pv 13) (pv 17) (fun _ _ => rfl))) pa_nil)))
        (pe_one (pe_call F.G3 r2 rfl F.D3.g F.D3.k F.D3.b .nil pas0 (pa_cons (pv 16) (pa_cons (pe_l1 (own := [("_law_step", 17)]) (g := gName 17) (te := tOp (rIxL K) (tVar 4) (tVar 17)) rfl scWH.nd (pi_list (pv 13)) (blkOk_by (N := nWH) (sc := defScope s_wh) (by decide +kernel))
          (fun _ _ _ _ _ => pg_name (i := 17) scWH.nd rfl (Or.inl rfl)) (fun _ _ _ _ _ => pts_nil) (fun _ _ _ _ _ => pe_ix ix_list (pv 4) (pv 17) (fun _ _ => rfl))) pa_nil)))))))))))))))))))))))), ?_⟩
    have hz := g.len
    have ln := low_len g g' hl
    have gl := low_grd g g' hl
    have sa : H a ≠ none := by obtain ⟨_, _, z, _⟩ := hs; rw [z]; exact fun q => nomatch q
    refine q_asg (ev_lenN' (ns := T) (ev_var rfl) (sq_of hb)) fun H1 e1 => ?_
    refine q_asgL (el_minC (P := P) (w := w) (K := K) (vs := [5]) (j := 5) (ei_size (ev_var rfl) (by omega)) hl (by omega) (fun _ _ _ => ev_var rfl) (fun _ _ _ => ev_var rfl) (sq_of (e1 _ _ hb)) (sq_of (e1 _ _ hc)) (fun _ => rfl) fun _ => rfl) fun lo H2 nlo e2 h2 => ?_
    have e02 := e1.trans e2
    have nlo0 : lo ≠ a := fun z => sa (by rw [← z]; exact fresh_back e1 nlo)
    have hs2 := hs.mono e02
    refine ⟨.ref a, rfl, a, n, rfl, hs2, hn, fun p x y H3 hp hx hy hxy b3 s3 h3 => ?_⟩
    have hb3 := b3 b _ nb (e02 _ _ hb)
    have hlo3 := b3 lo _ nlo0 h2
    have B3 : ExB a H H3 := (ExB.of e02).trans b3
    clear b3
    show tSeq _ _ _ ([some (.ref a), some (.ref b), some (.ref c), some (.int (T.length : Int)), some (.ref lo), none, some (.ref p), none, none, none, none, none, none, none, none, none, none, none] : L2.St) H3
    refine q_asg (v := .str x) (ev_op (ev_var rfl) ev_c (rv_ixL (sq_of h3) rfl)) fun H4 e4 => ?_
    refine q_asg (v := .str y) (ev_op (ev_var rfl) ev_c (rv_ixL (sq_of (e4 _ _ h3)) rfl)) fun H5 e5 => ?_
    have e35 := e4.trans e5
    refine q_asgP (evp_told (K := K) (P := P) (w := w) (CF := CF) (i := 7) (j := 8) (d := 6) (k := 10) (vs := [10]) rfl rfl rfl (e35 _ _ h3) hx hy hxy (fun _ => rfl) fun _ => rfl) fun v H6 e6 ⟨fa, pr, hv, hF, told, hpm⟩ => ?_
    subst hv
    have e36 := e35.trans e6
    refine q_newD fun tb htb => ?_
    have n7 : Ex H6 (upd H6 tb (.dK [])) := Ex.new htb
    have hp7 : (upd H6 tb (.dK [])) tb = some (.dK []) := upd_same
    generalize upd H6 tb (.dK []) = H7 at n7 hp7
    refine q_dput ?_
    refine el_list (K := K) (ev_var rfl) (sq_of (n7 _ _ (e36 _ _ hlo3))) H7 (Ex.refl _) _ fun t1 H8 ht1 e8 h8 => ?_
    have hp8 := e8 _ _ hp7
    refine ⟨.ref tb, rfl, .str x, rfl, tb, _, rfl, DPut.k (k := .inr x) hp8 (by rw [sizeLine_eq]; show 0 < 16777216; decide), ?_⟩
    have ne1 : tb ≠ t1 := fun z => by rw [← z, hp7] at ht1; cases ht1
    have k8 : ∀ b o, b ≠ tb → H8 b = some o → (upd H8 tb (.dK (putK [] (.inr x) (.ref t1)))) b = some o := fun b o nb h => by rw [upd_ne nb]; exact h
    have hp9 : (upd H8 tb (.dK (putK [] (.inr x) (.ref t1)))) tb = some (.dK [(.inr x, .ref t1)]) := by rw [upd_same]; rfl
    have h19 := k8 t1 _ (Ne.symm ne1) h8
    have e69 : Ex H6 (upd H8 tb (.dK (putK [] (.inr x) (.ref t1)))) := Ex.mut (n7.trans e8) htb
    generalize upd H8 tb (.dK (putK [] (.inr x) (.ref t1))) = H9 at k8 hp9 h19 e69
    have e39 := e36.trans e69
    refine q_dput ?_
    refine el_list (K := K) (ev_var rfl) (sq_of (e39 _ _ hb3)) H9 (Ex.refl _) _ fun t2 HA ht2 eA hA => ?_
    have hpA := eA _ _ hp9
    refine ⟨.ref tb, rfl, .str y, rfl, tb, _, rfl, DPut.k (k := .inr y) hpA (by rw [sizeLine_eq]; show 1 < 16777216; decide), ?_⟩
    have ne2 : tb ≠ t2 := fun z => by rw [← z, hp9] at ht2; cases ht2
    have kA : ∀ b o, b ≠ tb → HA b = some o → (upd HA tb (.dK (putK [(.inr x, .ref t1)] (.inr y) (.ref t2)))) b = some o := fun b o nb h => by rw [upd_ne nb]; exact h
    have hpB : (upd HA tb (.dK (putK [(.inr x, .ref t1)] (.inr y) (.ref t2)))) tb = some (.dK [(.inr x, .ref t1), (.inr y, .ref t2)]) := by
      rw [upd_same]
      simp [putK, hxy]
    have h1B := kA t1 _ (Ne.symm ne1) (eA _ _ h19)
    have h2B := kA t2 _ (Ne.symm ne2) hA
    have e6B : Ex H6 (upd HA tb (.dK (putK [(.inr x, .ref t1)] (.inr y) (.ref t2)))) := Ex.mut (e69.trans eA) htb
    generalize upd HA tb (.dK (putK [(.inr x, .ref t1)] (.inr y) (.ref t2))) = HB at kA hpB h1B h2B e6B
    have wok := wok_two hx hy hxy told hpm g g' hl
    have tk : TbK HB [(.inr x, .ref t1), (.inr y, .ref t2)] (Ts2 x y T U) := ⟨rfl, fun i l V hi => by
      match i, hi with
      | 0, hi =>
        have z := Option.some.inj hi
        rw [Prod.mk.injEq] at z
        obtain ⟨rfl, rfl⟩ := z
        exact ⟨t1, rfl, h1B⟩
      | 1, hi =>
        have z := Option.some.inj hi
        rw [Prod.mk.injEq] at z
        obtain ⟨rfl, rfl⟩ := z
        exact ⟨t2, rfl, h2B⟩⟩
    refine q_asgP (R := fun v H' => ∃ wd, v = .ref wd ∧ WAt CW H' wd T.length (Ts2 x y T U) (bsT (Ts2 x y T U) pr)) (fun HC eC Q2 q2 => ?_) fun v HC eC ⟨wd, hv, hW⟩ => ?_
    · refine ⟨_, rfl, ?_⟩
      intro pl hpl
      have nD : Ex HC (upd HC pl (.dK [])) := Ex.new hpl
      have hpD : (upd HC pl (.dK [])) pl = some (.dK []) := upd_same
      generalize upd HC pl (.dK []) = HD at nD hpD
      refine ⟨_, rfl, _, rfl, ?_⟩
      intro o dx ho hdx hne
      have m := upd_make (C := CW) ho hdx
      have hos : (upd (upd HD dx (.own o)) o (.ins CW dx [])) o = some (.ins CW dx []) := upd_same
      generalize upd (upd HD dx (.own o)) o (.ins CW dx []) = HE at m hos
      have eBE : Ex HB HE := (eC.trans nD).trans m
      refine ⟨o, dx, pl, tb, fa, T.length, _, Ts2 x y T U, [(x, y)], pr, rfl, hos, m _ _ hpD, eBE _ _ hpB, tk.mono eBE, hF.mono (e6B.trans eBE), wok, fun HF bF hW => ⟨rfl, q2 _ HF ?_ ⟨o, rfl, hW⟩⟩⟩
      exact bF.base (nD.trans m) (fresh_back nD ho)
    subst hv
    have e6C := e6B.trans eC
    have e3C := e36.trans e6C
    have wdd := wok.wd
    have mxp : x ∈ TS.signs pr := hpm.mem_iff.mpr (by simp)
    have myp : y ∈ TS.signs pr := hpm.mem_iff.mpr (by simp)
    have shx : Shows (Ts2 x y T U) (bsT (Ts2 x y T U) pr) x (lowT T U) := by
      have z := wok.small (l := x) (by simp)
      rwa [tab_x hx hy hxy told hpm g g' hl] at z
    have shX : Shows (Ts2 x y T U) (bsT (Ts2 x y T U) pr) (Txt.upper x) (backT (lowT T U)) := by
      have z := wok.cap mxp
      rwa [tab_x hx hy hxy told hpm g g' hl] at z
    have shY : Shows (Ts2 x y T U) (bsT (Ts2 x y T U) pr) (Txt.upper y) (backT T) := by
      have z := wok.cap myp
      rwa [tab_y hx hy hxy told hpm g g' hl] at z
    have lx := hx.len
    have lX := up_len hx
    have hb0 : ∀ {Hn : Hp}, Ex HC Hn → Hn b = some (.lst (nv T)) := fun e => e _ _ (e3C _ _ hb3)
    have hlo0 : ∀ {Hn : Hp}, Ex HC Hn → Hn lo = some (.lst (nv (lowT T U))) := fun e => e _ _ (e3C _ _ hlo3)
    refine q_asgL (el_wmeth (ev_var rfl) hW (fun _ _ _ _ => rfl) (ev_upper (ev_var rfl) (by omega)) (sl_TO hW wdd shX)) fun sm HD _ eD hD => ?_
    refine q_asgL (el_wmeth (ev_var rfl) (hW.mono eD) (fun _ _ _ _ => rfl) (ev_upper (ev_var rfl) (by have := hy.len; omega)) (sl_TO (hW.mono eD) wdd shY)) fun bg HE _ eE hE => ?_
    have eCE := eD.trans eE
    have hDE := eE _ _ hD
    refine q_when (b := false) (et_is (et_or (a := false) (b := false) (et_is (et_not (et_B (ev_call (z := .bl true) (ea_cons (ev_var rfl) (ea_cons (ev_var rfl) ea_nil)) (sv_mt (K := K) (sq_of (hlo0 eCE)) (sq_of hDE) gl)))) rfl) fun _ => et_is (et_not (et_B (ev_call (z := .bl true) (ea_cons (ev_var rfl) (ea_cons (ev_var rfl) ea_nil)) (sv_mt (K := K) (sq_of (hb0 eCE)) (sq_of hE) g)))) rfl) rfl) (fun z => Bool.noConfusion z) fun _ HF eF => ?_
    have eCF := eCE.trans eF
    have hDF := eF _ _ hDE
    have hEF := eF _ _ hE
    refine q_forI (H := HF) (ei_size (n := T.length) (ev_var rfl) (by omega)) (Ex.refl HF) (fun G i σ' H' => (∃ v, σ' = [some (.ref a), some (.ref b), some (.ref c), some (.int (T.length : Int)), some (.ref lo), v, some (.ref p), some (.str x), some (.str y), some (.ref fa), none, some (.ref tb), some (.ref wd), some (.ref sm), some (.ref bg), none, none, none]) ∧ Ex HF H') (fun G H2 _ e _ => ⟨⟨none, rfl⟩, e⟩) ?_ ?_
    · rintro G i v σ' H' eG eG' hv ⟨⟨v5, rfl⟩, e⟩
      obtain ⟨hi, rfl⟩ := nums_at hv
      rw [Int.zero_add]
      have bl := back_low g g' hl
      have ha := hiB_at g g' hl hi
      have le : (backT T).getD i 0 ≤ (backT (lowT T U)).getD i 0 := by rw [bl, ha]; omega
      refine s_when (b := false) (et_is (ev_ltI (g := fun i j => decide (i > j)) (ev_atN (ns := backT T) (k := i) (ev_var rfl) (ev_var rfl) (sq_of (e _ _ hEF)) (by rw [back_len]; exact hi)) (ev_atN (ns := backT (lowT T U)) (k := i) (ev_var rfl) (ev_var rfl) (sq_of (e _ _ hDF)) (by rw [back_len, ln]; exact hi))) (decide_eq_false (by omega))) (fun z => Bool.noConfusion z) fun _ H2 e2 => ⟨eG'.trans e2, ⟨_, rfl⟩, e.trans e2⟩
    · rintro G σ' H' eG eG' ⟨⟨v5, rfl⟩, e⟩
      have eCG : Ex HC H' := eCF.trans e
      have hDG := e _ _ hDF
      have lbl : (backT (lowT T U)).length = T.length := by rw [back_len, ln]
      have kz : (lowT T U).length ≤ 1000 := by rw [ln]; omega
      have kz2 : (backT (lowT T U)).length ≤ 1000 := by rw [lbl]; omega
      have hd1 : Head (Ts2 x y T U) (bsT (Ts2 x y T U) pr) x [lowT T U] := .one lx shx
      have hd2 : Head (Ts2 x y T U) (bsT (Ts2 x y T U) pr) (Txt.upper x) [backT (lowT T U)] := .one lX shX
      have h12 := hd1.app hd2 (by omega)
      have h21 := hd2.app hd1 (by omega)
      have l12 := len_app x (Txt.upper x)
      have l21 := len_app (Txt.upper x) x
      have h121 := h12.app hd1 (by omega)
      have h212 := h21.app hd2 (by omega)
      have sl1 : ∀ {Hn : Hp}, Ex HC Hn → SpL (spHT CW) [.ref wd, .str (x ++ Txt.upper x ++ x)] Hn (nv (lowT T U)) := fun e => by
        have z := sl_HT (hW.mono e) wdd h121
        rw [← ln] at z
        rwa [show [lowT T U] ++ [backT (lowT T U)] ++ [lowT T U] = [lowT T U, backT (lowT T U), lowT T U] from rfl, head_tbt gl] at z
      have sl2 : ∀ {Hn : Hp}, Ex HC Hn → SpL (spHT CW) [.ref wd, .str (Txt.upper x ++ x ++ Txt.upper x)] Hn (nv (backT (lowT T U))) := fun e => by
        have z := sl_HT (hW.mono e) wdd h212
        rw [← ln] at z
        rwa [show [backT (lowT T U)] ++ [lowT T U] ++ [backT (lowT T U)] = [backT (lowT T U), lowT T U, backT (lowT T U)] from rfl, head_btb gl] at z
      have sl3 : ∀ {Hn : Hp}, Ex HC Hn → SpL (spHT CW) [.ref wd, .str (Txt.upper x ++ x)] Hn (nv (compT (backT (lowT T U)) (lowT T U))) := fun e => by
        have z := sl_HT (hW.mono e) wdd h21
        rw [← ln] at z
        rwa [show [backT (lowT T U)] ++ [lowT T U] = [backT (lowT T U), lowT T U] from rfl, head_bt gl] at z
      have sl4 : ∀ {Hn : Hp}, Ex HC Hn → SpL (spHT CW) [.ref wd, .str (x ++ Txt.upper x)] Hn (nv (compT (lowT T U) (backT (lowT T U)))) := fun e => by
        have z := sl_HT (hW.mono e) wdd h12
        rw [← ln] at z
        rwa [show [lowT T U] ++ [backT (lowT T U)] = [lowT T U, backT (lowT T U)] from rfl, head_tb gl] at z
      refine q_when (b := false) (et_is (et_not (et_B (ev_sameL (K := K) (U := lowT T U) (el_wmeth (ev_var rfl) (hW.mono eCG) (fun _ _ _ _ => rfl) (ev_op (ev_op (ev_var rfl) (ev_upper (ev_var rfl) (by omega)) (rv_cat2 (by omega))) (ev_var rfl) (rv_cat2 (by omega))) (sl1 eCG)) (fun _ _ => ev_var rfl) (sq_of (hlo0 eCG)) kz))) rfl) (fun z => Bool.noConfusion z) fun _ HI eI => ?_
      have eCI := eCG.trans eI
      have hDI := eI _ _ hDG
      refine q_when (b := false) (et_is (et_not (et_B (ev_sameL (K := K) (U := backT (lowT T U)) (el_wmeth (ev_var rfl) (hW.mono eCI) (fun _ _ _ _ => rfl) (ev_op (ev_op (ev_upper (ev_var rfl) (by omega)) (ev_var rfl) (rv_cat2 (by omega))) (ev_upper (ev_var rfl) (by omega)) (rv_cat2 (by omega))) (sl2 eCI)) (fun _ _ => ev_var rfl) (sq_of hDI) kz2))) rfl) (fun z => Bool.noConfusion z) fun _ HJ eJ => ?_
      have eCJ := eCI.trans eJ
      refine q_asgL (el_wmeth (ev_var rfl) (hW.mono eCJ) (fun _ _ _ _ => rfl) (ev_op (ev_upper (ev_var rfl) (by omega)) (ev_var rfl) (rv_cat2 (by omega))) (sl3 eCJ)) fun up HK _ eK hK => ?_
      have eCK := eCJ.trans eK
      refine q_asgL (el_wmeth (ev_var rfl) (hW.mono eCK) (fun _ _ _ _ => rfl) (ev_op (ev_var rfl) (ev_upper (ev_var rfl) (by omega)) (rv_cat2 (by omega))) (sl4 eCK)) fun dn HL _ eL hL => ?_
      have eCL := eCK.trans eL
      have hKL := eL _ _ hK
      have hDL : HL sm = some (.lst (nv (backT (lowT T U)))) := eL _ _ (eK _ _ (eJ _ _ hDI))
      have k1 : ∀ k ∈ lowT T U, k < (backT (lowT T U)).length := fun k hk => by rw [back_len]; exact gl.tb.lt k hk
      have k2 : ∀ k ∈ backT (lowT T U), k < (lowT T U).length := fun k hk => gl.backTb.lt k hk
      refine s_ret (v := .bl true) (ev_is (ev_andV (a := true) (b := true) (ev_sameR (K := K) (U := compT (backT (lowT T U)) (lowT T U)) (ev_var rfl) (sq_of hKL) (el_put (P := P) (w := w) (j := 17) (vs := [17]) (o := backT (lowT T U)) (i := lowT T U) (ev_var rfl) (fun _ _ _ => ev_var rfl) (sq_of hDL) (sq_of (hlo0 eCL)) (by omega) k1 (fun _ => rfl) fun _ => rfl) (by rw [comp_len]; exact kz)) fun _ => ev_sameR (K := K) (U := compT (lowT T U) (backT (lowT T U))) (ev_var rfl) (sq_of hL) (el_put (P := P) (w := w) (j := 17) (vs := [17]) (o := lowT T U) (i := backT (lowT T U)) (ev_var rfl) (fun _ _ _ => ev_var rfl) (sq_of (hlo0 eCL)) (sq_of hDL) (by omega) k2 (fun _ => rfl) fun _ => rfl) (by rw [comp_len]; exact kz2)) rfl) fun HM eM => q HM (B3.trans (.of ((e3C.trans eCL).trans eM)))
end
end Z
end
/-! Y25 -/
set_option linter.all false
set_option maxRecDepth 100000
set_option maxHeartbeats 4000000
noncomputable section
namespace Z
open PySem PySem.Spec PyProof.Rows L2 PySem.Froz Evl TS GenW

theorem iv_snoc (zs : List Int) (k : Int) : iv (zs ++ [k]) = iv zs ++ [V.int k] := by simp [iv]
/-! ### the rows of the short chains rise -/
def risNB (T : List Nat) : Bool := decide (0 < T.length) && ((List.range T.length).all fun i => (!decide (i + 1 < T.length) || decide (T.getD i 0 ≤ T.getD (i + 1) 0)) && decide (T.getD i 0 < T.length))
theorem risN_of {T : List Nat} (h : risNB T = true) : Ris T := by
  unfold risNB at h
  rw [Bool.and_eq_true, List.all_eq_true] at h
  obtain ⟨h0, h1⟩ := h
  have at_ : ∀ i, i < T.length → ((!decide (i + 1 < T.length) || decide (T.getD i 0 ≤ T.getD (i + 1) 0)) && decide (T.getD i 0 < T.length)) = true := fun i hi => h1 i (List.mem_range.mpr hi)
  refine ⟨of_decide_eq_true h0, fun i hi => ?_, fun i hi => ?_⟩
  · have z := at_ i (by omega)
    simp only [Bool.and_eq_true, Bool.or_eq_true, Bool.not_eq_true', decide_eq_false_iff_not, decide_eq_true_eq] at z
    exact z.1.elim (fun n => absurd hi n) id
  · have z := at_ i hi
    simp only [Bool.and_eq_true, decide_eq_true_eq] at z
    exact z.2
theorem rises_all : ∀ n, 1 ≤ n → n ≤ 4 → ((rises n).all risNB) = true := fun n h1 h4 => by
  match n, h1, h4 with
  | 1, _, _ => decide +kernel
  | 2, _, _ => decide +kernel
  | 3, _, _ => decide +kernel
  | 4, _, _ => decide +kernel
theorem rises_ris {n : Nat} (h1 : 1 ≤ n) (h4 : n ≤ 4) {T : List Nat} (hT : T ∈ rises n) : Ris T := risN_of (List.all_eq_true.mp (rises_all n h1 h4) T hT)
theorem Ris.Z {T : List Nat} (R : Ris T) : RisZ (T.map fun (k : Nat) => (k : Int)) := by
  have at_ : ∀ {i}, i < T.length → (T.map fun (k : Nat) => (k : Int)).getD i 0 = (T.getD i 0 : Nat) := fun {i} hi => by simp [List.getD_eq_getElem?_getD, hi]
  refine ⟨by rw [List.length_map]; exact R.pos, ?_, fun i hi => ?_, ?_⟩
  · rw [at_ R.pos]; omega
  · rw [List.length_map] at hi
    rw [at_ (by omega), at_ hi]
    have := R.up i hi
    omega
  · have p := R.pos
    rw [List.length_map, at_ (by omega)]
    have := R.lt (T.length - 1) (by omega)
    omega
theorem srt_ris2 {M U : List Nat} {n : Nat} (hp : (U.map fun (k : Nat) => (k : Int)).Perm (M.map fun (k : Nat) => (k : Int))) (hs : (U.map fun (k : Nat) => (k : Int)).Pairwise (· ≤ ·)) (hM : M.length = n) (hb : ∀ k ∈ M, k < n) (n1 : 1 ≤ n) (n60 : n ≤ 60) : U.length = n ∧ Ris U ∧ Grd (U.set 0 0) := by
  obtain ⟨hl, hg⟩ := srt_ris hp hs hM hb n1 n60
  refine ⟨hl, ⟨by omega, fun i hi => ?_, fun i hi => ?_⟩, hg⟩
  · have z := List.pairwise_iff_getElem.mp hs i (i + 1) (by rw [List.length_map]; omega) (by rw [List.length_map]; omega) (by omega)
    rw [List.getElem_map, List.getElem_map] at z
    rw [List.getD_eq_getElem?_getD, List.getElem?_eq_getElem (by omega), List.getD_eq_getElem?_getD, List.getElem?_eq_getElem (by omega)]
    exact Int.ofNat_le.mp z
  · have hk : U.getD i 0 ∈ U := getD_mem hi
    obtain ⟨m, hm, e⟩ := List.mem_map.mp (hp.subset (List.mem_map.mpr ⟨_, hk, rfl⟩))
    have : m = U.getD i 0 := by omega
    rw [← this, hl]; exact hb m hm
section
variable {P : Program} {w : World} {K : PySem.W.Frag} {σ : L2.St} {G H H1 : Hp} {a : Addr} {k1 k2 i j : Nat} {te ti : TE} {tt : TT} {D : Ends} {tz : TS} {wi : TI} {xs : List V} {vs : List Nat}
/-- a list comprehension whose item may draw: whole numbers -/
theorem kc_drawI {n : Nat} {Rb : Bool → Prop} (full : Prop) (hf : full → ∀ c, Rb c → c = true) (h : EvI wi σ G xs) (na : G a = none) (hz : xs.length ≤ 3000) (hw : ∀ x, wipe ((wipe σ vs).set j (some x)) vs = wipe σ vs)
    (ht : ∀ (i : Nat) (x : V) G1, Ex G G1 → G1 a = none → xs[i]? = some x → EvTD tt ((wipe σ vs).set j (some x)) G1 a k1 Rb)
    (he : ∀ (i : Nat) (x : V) G1, Ex G G1 → G1 a = none → xs[i]? = some x → EvD te ((wipe σ vs).set j (some x)) G1 a k2 fun v => ∃ k : Int, v = .int k)
    (e : Ex G H) (s : Src H a n) (hn : n + xs.length * (k1 + k2) ≤ 2 ^ 40) {Q : VK}
    (q : ∀ p (M : List Int) H2, H p = none → Ex G H2 → ExB a H H2 → Src H2 a (n + xs.length * (k1 + k2)) → H2 p = some (.lst (iv M)) → M.length ≤ xs.length → (full → M.length = xs.length) → Q (.ref p) H2) :
    tKc P w .lst wi (gName j) tt te vs σ H Q := h H e _ fun J H1 G1 e1 eG eG1 nG g Dd hD => by
  have s1 := s.mono e1
  have sa : H a ≠ none := by obtain ⟨_, _, z, _⟩ := s; rw [z]; exact fun q => nomatch q
  have na1 : G1 a = none := nG a na sa
  have nDa : Dd ≠ a := fun z => by obtain ⟨_, _, y, _⟩ := s1; rw [z, y] at hD; cases hD
  have gD : G1 Dd = none := by cases z : G1 Dd with | none => rfl | some o => rw [eG1 _ _ z] at hD; cases hD
  have hHD : H Dd = none := fresh_back e1 hD
  refine turns (g := g) (Step := fun x H Nx => gName j x (wipe σ vs) H fun σ2 H2 => wipe σ2 vs = wipe σ vs ∧ tt σ2 H2 fun b H3 => if b = true then te σ2 H3 fun y H4 => Kd.lst.add P w Dd H4 y Nx else Nx H3) (Qd := fun H => Q (.ref Dd) H)
    (fun i H' => i ≤ xs.length ∧ ∃ M : List Int, M.length ≤ i ∧ (full → M.length = i) ∧ Ex G1 H' ∧ ExB a H H' ∧ Src H' a (n + i * (k1 + k2)) ∧ H' Dd = some (.lst (iv M))) ⟨Nat.zero_le _, [], Nat.le_refl _, fun _ => rfl, eG1.trans (Ex.new hD), exb_new (ExB.of e1) hHD, ?_, upd_same⟩ (fun i H' _ p => ?_) (fun i x H' hx p => ⟨hw x, ?_⟩) (fun H' p => ?_)
  · rw [Nat.zero_mul, Nat.add_zero]; exact s1.skip nDa
  · obtain ⟨_, M, _, _, p, _⟩ := p; exact p
  · obtain ⟨_, M, m1, m2, pG, pB, pS, pD⟩ := p
    have hi := (List.getElem?_eq_some_iff.mp hx).1
    have hle : (i + 1) * (k1 + k2) ≤ xs.length * (k1 + k2) := Nat.mul_le_mul_right _ hi
    have hsu : (i + 1) * (k1 + k2) = i * (k1 + k2) + (k1 + k2) := Nat.succ_mul _ _
    refine ht i x G1 eG na1 hx _ H' pG pS (by omega) _ fun c H3 rc e3 b3 s3 => ?_
    cases c with
    | true =>
      rw [if_pos rfl]
      refine he i x G1 eG na1 hx _ H3 e3 s3 (by omega) _ fun y H4 ⟨k, hy⟩ e4 b4 s4 => ?_
      subst hy
      have hD4 : H4 Dd = some (.lst (iv M)) := b4 _ _ nDa (b3 _ _ nDa pD)
      refine ⟨iv M, hD4, sz_lt (by rw [List.length_map]; omega), by omega, M ++ [k], by rw [List.length_append, List.length_singleton]; omega, fun f => by rw [List.length_append, List.length_singleton, m2 f], Ex.mut e4 gD, exb_new ((pB.trans b3).trans b4) hHD, ?_, ?_⟩
      · rw [hsu]
        have z := s4.skip (o := .lst (iv M ++ [.int k])) nDa
        rw [show n + (i * (k1 + k2) + (k1 + k2)) = n + i * (k1 + k2) + k1 + k2 by omega]
        exact z
      · rw [upd_same, iv_snoc]
    | false =>
      rw [if_neg (by decide)]
      exact ⟨by omega, M, by omega, fun f => absurd (hf f false rc) (by decide), e3, pB.trans b3, s3.more (by omega), b3 _ _ nDa pD⟩
  · obtain ⟨_, M, m1, m2, pG, pB, pS, pD⟩ := p
    exact q Dd M H' hHD (eG.trans pG) pB pS pD m1 m2

/-- sorted([int(draw(source, size)) for c in range(size)]); source in slot 1, size in slot 2, c in slot 7 -/
abbrev tDrS (P : Program) (w : World) (K : PySem.W.Frag) : TE := tCB (rSortedI K) (tCons (tKc P w .lst (iRng1 (tCons (tVar 2) tNil)) (gName 7) tYes (tCB rInt (tCons (tCall spDraw [] E0 (tCons (tVar 1) (tCons (tVar 2) tNil))) tNil)) [7]) tNil)
theorem q_srtD {m n i : Nat} {H1 : Hp} (h2 : σ[2]? = some (some (.int (n : Int)))) (hw : ∀ x, wipe ((wipe σ [7]).set 7 (some x)) [7] = wipe σ [7]) (hs1 : ∀ x, ((wipe σ [7]).set 7 (some x))[1]? = some (some (.ref a))) (hs2 : ∀ x, ((wipe σ [7]).set 7 (some x))[2]? = some (some (.int (n : Int))))
    (n1 : 1 ≤ n) (n60 : n ≤ 60) (e : Ex G H1) (na : G a = none) (s : Src H1 a m) (hm : m + n ≤ 2 ^ 40)
    (q : ∀ p U H2, H1 p = none → p ≠ a → Ex G H2 → ExB a H1 H2 → Src H2 a (m + n) → H2 p = some (.lst (nv U)) → U.length = n → Ris U → Grd (U.set 0 0) → tz D (σ.set i (some (.ref p))) H2) : tSeq (tAsg (tDrS P w K) (gName i)) tz D σ H1 := by
  have hl : (nums 0 n).length = n := nums_len 0 n
  refine tcb_one (te := tKc P w .lst (iRng1 (tCons (tVar 2) tNil)) (gName 7) tYes (tCB rInt (tCons (tCall spDraw [] E0 (tCons (tVar 1) (tCons (tVar 2) tNil))) tNil)) [7]) (kc_draw (P := P) (w := w) (σ := σ) (G := G) (a := a) (k1 := 0) (k2 := 1) (b := n) (Rb := fun b => b = true) (xs := nums 0 n) (wi := iRng1 (tCons (tVar 2) tNil)) (j := 7) (vs := [7]) (tt := tYes) (te := tCB rInt (tCons (tCall spDraw [] E0 (tCons (tVar 1) (tCons (tVar 2) tNil))) tNil)) True (fun _ _ z => z) (ei_size (ev_var h2) (by omega)) na (by rw [hl]; omega) hw
    (fun i x G1 _ g1 hx => etd_yes) (fun i x G1 _ g1 hx => by exact ed_int ((ed_draw (m := (n : Int)) (hs1 x) (ev_var (hs2 x)) (by omega) g1).imp fun v ⟨r, hv, r0, r1⟩ => ⟨r.toNat, by rw [hv, Int.toNat_of_nonneg r0], by omega⟩) fun v ⟨k, hv, _⟩ => ⟨_, hv⟩) e s ?_ fun p M2 He hp ee be se he _ m2 m3' => ?_)
  · rw [hl]; omega
  · rw [hl] at m2 se
    refine ⟨p, M2.map fun (k : Nat) => (k : Int), rfl, by rw [List.map_map]; exact sq_of he, fun ns' p' hpm hpw hp' => ?_⟩
    obtain ⟨U, rfl⟩ := nat_of hpm
    obtain ⟨lU, rU, gU⟩ := srt_ris2 hpm hpw (m2 trivial) m3' n1 n60
    have np : p' ≠ a := fun z => by
      obtain ⟨_, _, y, _⟩ := se
      rw [z, y] at hp'; cases hp'
    have np1 : H1 p' = none := by
      cases z : H1 p' with
      | none => rfl
      | some o => rw [be p' o np z] at hp'; cases hp'
    refine q p' U _ np1 np (ee.trans (Ex.new hp')) (be.trans (.of (Ex.new hp'))) ?_ ?_ lU rU gU
    · have z := se.skip (b := p') (o := .lst ((U.map fun (k : Nat) => (k : Int)).map V.int)) np
      rw [show m + n * (0 + 1) = m + n by omega] at z
      exact z
    · rw [upd_same, List.map_map]
      rfl
end
end Z
end
/-! Y26 -/
set_option linter.all false
set_option maxRecDepth 100000
set_option maxHeartbeats 4000000
noncomputable section
namespace Z
open PySem PySem.Spec PyProof.Rows L2 PySem.Froz Evl TS GenW

abbrev s_law : Stmt := top 72
abbrev nLaw : List PySem.Str := ["_law_script", "_law_source_here", "_law_size_here", "_law_rows", "_law_given", "_law_k", "_law_one", "_law_c", "_law_other", "_law_numbers", "_law_ordered", "_law_number"]
theorem scLaw : FnScope nLaw ["_law_script"] (defScope s_law) := ⟨rfl, rfl, rfl, by decide +kernel, rfl, by decide +kernel, by decide +kernel⟩
/-- what the law needs -/
structure LawFn (P : Program) (w : World) (K : PySem.W.Frag) (mg : PySem.Str → Option Value) (base : Heap) (f0 f1 f2 f3 f4 f5 f6 f7 f8 f9 fA fB fC fD : Addr) (d0 d1 d2 d3 d4 d5 d6 d7 d8 d9 dA dB dC dD : FuncData) : Prop where
  W : Wd mg
  L : Lb mg
  D0 : Dat K mg "_law_source" s_source ["_law_script", "_law_k"] f0 d0
  G0 : FnOk P w K mg base (L2.CX P w) 2 f0 d0 ["_law_script", "_law_k"] (spSource K)
  D1 : Dat K mg "_law_draw" s_draw ["_law_source_here", "_law_many"] f1 d1
  G1 : FnOk P w K mg base (L2.CX P w) 1 f1 d1 ["_law_source_here", "_law_many"] spDraw
  D2 : Dat K mg "_law_risings" s_ris ["_law_size_here"] f2 d2
  G2 : FnOk P w K mg base (L2.CX P w) 1 f2 d2 ["_law_size_here"] spRs
  D3 : Dat K mg "walk_tables" s_walk ["steps"] f3 d3
  G3 : GFn P w K mg base 2 f3 d3 ["steps"] spWalk
  D4 : Dat K mg "_law_walk_refused" s_walk_ref ["_law_steps"] f4 d4
  G4 : FnOk P w K mg base (L2.CX P w) 8 f4 d4 ["_law_steps"] spWR
  D5 : Dat K mg "_law_first_two" s_first2 ["_law_steps"] f5 d5
  G5 : FnOk P w K mg base (L2.CX P w) 4 f5 d5 ["_law_steps"] spF2
  D6 : Dat K mg "_law_same_steps" s_same ["_law_actual", "_law_due"] f6 d6
  G6 : FnOk P w K mg base (L2.CX P w) 2 f6 d6 ["_law_actual", "_law_due"] (spSame K)
  D7 : Dat K mg "rising" s_rising ["table"] f7 d7
  G7 : FnOk P w K mg base (L2.CX P w) 1 f7 d7 ["table"] (spRisZ K)
  D8 : Dat K mg "_law_back_holds" s_bh ["_law_table"] f8 d8
  G8 : FnOk P w K mg base (L2.CX P w) 5 f8 d8 ["_law_table"] (spBH K)
  D9 : Dat K mg "_law_thresholds_hold" s_th ["_law_table"] f9 d9
  G9 : FnOk P w K mg base (L2.CX P w) 2 f9 d9 ["_law_table"] (spTH K)
  DA : Dat K mg "_law_size" s_size ["_law_source_here", "_law_usual", "_law_most"] fA dA
  GA : FnOk P w K mg base (L2.CX P w) 2 fA dA ["_law_source_here", "_law_usual", "_law_most"] spSize
  DB : Dat K mg "_law_two_hold" s_tw ["_law_one", "_law_other"] fB dB
  GB : FnOk P w K mg base (L2.CX P w) 3 fB dB ["_law_one", "_law_other"] (spTw K)
  DC : Dat K mg "_law_rises" s_rs ["_law_numbers"] fC dC
  GC : FnOk P w K mg base (L2.CX P w) 1 fC dC ["_law_numbers"] (spRisZ K)
  DD : Dat K mg "_law_world_holds" s_wh pWH fD dD
  GD : FnOk P w K mg base (L2.CX P w) 7 fD dD pWH spWH
section
variable {P : Program} {w : World} {K : PySem.W.Frag} {mg : PySem.Str → Option Value} {base : Heap} {f f0 f1 f2 f3 f4 f5 f6 f7 f8 f9 fA fB fC fD : Addr} {fd d0 d1 d2 d3 d4 d5 d6 d7 d8 d9 dA dB dC dD : FuncData}
theorem step_lst0 {sp : Sp} {E : XK} {σ : L2.St} {H : Hp} {Q : VK} (h : ([] : List V).length ≤ sizeLine ∧ ∀ p, H p = none → sp [.ref p] (upd H p (.lst [])) Q E) : tCall sp [] E (tCons (tLst tNil) tNil) σ H Q := h
theorem sv_wr {n : Int} {H : Hp} (h : ¬ (1 ≤ n ∧ n ≤ 8)) : SpV spWR [.int n] H (.bl true) := fun H1 e Q q E => ⟨n, rfl, h, fun H2 e2 => q H2 e2⟩
theorem sv_risZ {a : Addr} {zs : List Int} {H : Hp} (h : SqL K H a (iv zs)) (hz : zs.length ≤ 1000) : SpV (spRisZ K) [.ref a] H (.bl (risB zs)) := fun H1 e Q q E => ⟨a, zs, rfl, ex_l e h, hz, fun H2 e2 => q H2 e2⟩
theorem ev_ris0 {σ : L2.St} {H : Hp} {E : XK} : Ev (tCall (spRisZ K) [] E (tCons (tLst tNil) tNil)) σ H (.bl (risB [])) := fun H1 e Q q =>
  step_lst0 ⟨by rw [sizeLine_eq]; decide, fun p hp => ⟨p, [], rfl, sq_of upd_same, by decide, fun H3 e3 => q H3 ((Ex.new hp).trans e3)⟩⟩
theorem ok_law (F : LawFn P w K mg base f0 f1 f2 f3 f4 f5 f6 f7 f8 f9 fA fB fC fD d0 d1 d2 d3 d4 d5 d6 d7 d8 d9 dA dB dC dD) (D : Dat K mg "law" s_law ["_law_script"] f fd) : FnOk P w K mg base (L2.CX P w) 9 f fd ["_law_script"] (spLaw K) := by
  have W := F.W
  have L := F.L
  refine D.F.okX scLaw (fun vs H Q E h => ?_) (fun cdv A outer s H vs Q E hr h => ?_)
  · obtain ⟨a, ns, rfl, _⟩ := h
    rfl
  · obtain ⟨a, ns, rfl, hS, hz, k⟩ := h
    have hu := hr.units
    have r1 : Room 1 _ := hr.mono (by decide)
    have r2 : Room 2 _ := hr.mono (by decide)
    have r3 : Room 3 _ := hr.mono (by decide)
    have r4 : Room 4 _ := hr.mono (by decide)
    have r5 : Room 5 _ := hr.mono (by decide)
    have r7 : Room 7 _ := hr.mono (by decide)
    refine ⟨_, pss_cons (ps_set (i := 1) scLaw.nd rfl (Or.inr rfl) (pe_call F.G0 r2 rfl F.D0.g F.D0.k F.D0.b .nil pas0 (pa_cons (pv 0) (pa_cons pe_int pa_nil))))
      (pss_cons (ps_set (i := 2) scLaw.nd rfl (Or.inr rfl) (pe_op op_add pe_int (pe_call F.G1 r1 rfl F.D1.g F.D1.k F.D1.b .nil pas0 (pa_cons (pv 1) (pa_cons pe_int pa_nil)))))
      (pss_cons (ps_set (i := 3) scLaw.nd rfl (Or.inl rfl) (pe_call F.G2 r1 rfl F.D2.g F.D2.k F.D2.b .nil pas0 (pa_cons (pv 2) pa_nil)))
      (pss_cons (ps_set (i := 4) scLaw.nd rfl (Or.inl rfl) (pe_listG (pgen_call (E := E0) F.G3 r2 rfl F.D3.g F.D3.k F.D3.b .nil (pa_cons (pv 2) pa_nil)) (pas0 (X := cxOf (L2.CX P w) P w K mg base nLaw "law" (defScope s_law) f cdv A outer s H E)) (fun _ _ _ z => z.elim) r5 rfl W.list PyProof.Rows.boot_list))
      (pss_cons (ps_if (PW.pt (pw_or (pt_cmpR op_ne (pe_callB call_len_seq (by rfl) W.len PySem.boot_len (pa_cons (pv 4) pa_nil)) (pe_callB call_len_seq (by rfl) W.len PySem.boot_len (pa_cons (pv 3) pa_nil)) (nomark _)) (pw_or (pt_not (pt_val (pe_call F.G4 hr rfl F.D4.g F.D4.k F.D4.b .nil pas0 (pa_cons pe_int pa_nil)))) (pw_or1 (pt_not (pt_val (pe_call F.G4 hr rfl F.D4.g F.D4.k F.D4.b .nil pas0 (pa_cons pe_int pa_nil)))))))) (pss_one (ps_ret pe_bl)) pss_nil)
      (pss_cons (ps_if (pt_cmpR (op_neD hu) (pe_call F.G5 r4 rfl F.D5.g F.D5.k F.D5.b .nil pas0 (pa_cons pe_int pa_nil)) (pe_lst (pa_cons (pe_lst (pa_cons pe_int (pa_cons pe_int (pa_cons pe_int (pa_cons pe_int (pa_cons pe_int (pa_cons pe_int (pa_cons pe_int (pa_cons pe_int pa_nil))))))))) (pa_cons (pe_lst (pa_cons pe_int (pa_cons pe_int (pa_cons pe_int (pa_cons pe_int (pa_cons pe_int (pa_cons pe_int (pa_cons pe_int (pa_cons pe_int pa_nil))))))))) pa_nil))) (nomark _)) (pss_one (ps_ret pe_bl)) pss_nil)
      (pss_cons (ps_for (passes_of rfl) rfl (pi_range1 rfl W.range (pa_cons (pe_callB call_len_seq (by rfl) W.len PySem.boot_len (pa_cons (pv 3) pa_nil)) pa_nil)) (pg_name (i := 5) scLaw.nd rfl (Or.inl rfl))
        (pss_cons (ps_if (PW.pt (pw_or (pt_not (pt_val (pe_call F.G6 r2 rfl F.D6.g F.D6.k F.D6.b .nil pas0 (pa_cons (pe_ix ix_list (pv 4) (pv 5) (fun _ _ => rfl)) (pa_cons (pe_ix ix_list (pv 3) (pv 5) (fun _ _ => rfl)) pa_nil))))) (pw_or1 (pt_cmpR op_notBl (pe_call F.G7 r1 rfl F.D7.g F.D7.k F.D7.b .nil pas0 (pa_cons (pe_ix ix_list (pv 4) (pv 5) (fun _ _ => rfl)) pa_nil)) pe_bl (nomark _))))) (pss_one (ps_ret pe_bl)) pss_nil)
        (pss_one (ps_if (PW.pt (pw_or (pt_not (pt_val (pe_call F.G8 r5 rfl F.D8.g F.D8.k F.D8.b .nil pas0 (pa_cons (pe_ix ix_list (pv 3) (pv 5) (fun _ _ => rfl)) pa_nil)))) (pw_or1 (pt_not (pt_val (pe_call F.G9 r2 rfl F.D9.g F.D9.k F.D9.b .nil pas0 (pa_cons (pe_ix ix_list (pv 3) (pv 5) (fun _ _ => rfl)) pa_nil))))))) (pss_one (ps_ret pe_bl)) pss_nil))))
      (pss_cons (ps_set (i := 1) scLaw.nd rfl (Or.inr rfl) (pe_call F.G0 r2 rfl F.D0.g F.D0.k F.D0.b .nil pas0 (pa_cons (pv 0) (pa_cons pe_int pa_nil))))
      (pss_cons (ps_set (i := 2) scLaw.nd rfl (Or.inr rfl) (pe_call F.GA r2 rfl F.DA.g F.DA.k F.DA.b .nil pas0 (pa_cons (pv 1) (pa_cons pe_int (pa_cons pe_int pa_nil)))))
      (pss_cons (ps_set (i := 6) scLaw.nd rfl (Or.inl rfl) (pe_callB cr_sortedI (by rfl) W.sorted boot_sorted (pa_cons (pe_l1 (own := [("_law_c", 7)]) (g := gName 7) (te := tCB rInt (tCons (tCall spDraw [] E0 (tCons (tVar 1) (tCons (tVar 2) tNil))) tNil)) rfl scLaw.nd (pi_range1 rfl W.range (pa_cons (pv 2) pa_nil)) (blkOk_by (N := nLaw) (sc := defScope s_law) (by decide +kernel))
          (fun _ _ _ _ _ => pg_name (i := 7) scLaw.nd rfl (Or.inl rfl)) (fun _ _ _ _ _ => pts_nil) (fun _ _ _ _ _ => pe_callTy call_int1 rfl L.int PyProof.Rows.boot_int (pa_cons (pe_call F.G1 r1 rfl F.D1.g F.D1.k F.D1.b .nil pas0 (pa_cons (pv 1) (pa_cons (pv 2) pa_nil))) pa_nil))) pa_nil)))
      (pss_cons (ps_set (i := 8) scLaw.nd rfl (Or.inl rfl) (pe_callB cr_sortedI (by rfl) W.sorted boot_sorted (pa_cons (pe_l1 (own := [("_law_c", 7)]) (g := gName 7) (te := tCB rInt (tCons (tCall spDraw [] E0 (tCons (tVar 1) (tCons (tVar 2) tNil))) tNil)) rfl scLaw.nd (pi_range1 rfl W.range (pa_cons (pv 2) pa_nil)) (blkOk_by (N := nLaw) (sc := defScope s_law) (by decide +kernel))
          (fun _ _ _ _ _ => pg_name (i := 7) scLaw.nd rfl (Or.inl rfl)) (fun _ _ _ _ _ => pts_nil) (fun _ _ _ _ _ => pe_callTy call_int1 rfl L.int PyProof.Rows.boot_int (pa_cons (pe_call F.G1 r1 rfl F.D1.g F.D1.k F.D1.b .nil pas0 (pa_cons (pv 1) (pa_cons (pv 2) pa_nil))) pa_nil))) pa_nil)))
      (pss_cons (ps_if (PW.pt (pw_or (pt_not (pt_val (pe_call F.G8 r5 rfl F.D8.g F.D8.k F.D8.b .nil pas0 (pa_cons (pv 6) pa_nil)))) (pw_or1 (pt_not (pt_val (pe_call F.G9 r2 rfl F.D9.g F.D9.k F.D9.b .nil pas0 (pa_cons (pv 6) pa_nil))))))) (pss_one (ps_ret pe_bl)) pss_nil)
      (pss_cons (ps_asg pe_int (pg_sub (pv 6) pe_int set_list))
      (pss_cons (ps_asg pe_int (pg_sub (pv 8) pe_int set_list))
      (pss_cons (ps_if (PW.pt (pw_or (pt_not (pt_val (pe_call F.G8 r5 rfl F.D8.g F.D8.k F.D8.b .nil pas0 (pa_cons (pv 6) pa_nil)))) (pw_or (pt_not (pt_val (pe_call F.G8 r5 rfl F.D8.g F.D8.k F.D8.b .nil pas0 (pa_cons (pv 8) pa_nil)))) (pw_or1 (pt_not (pt_val (pe_call F.GB r3 rfl F.DB.g F.DB.k F.DB.b .nil pas0 (pa_cons (pv 6) (pa_cons (pv 8) pa_nil))))))))) (pss_one (ps_ret pe_bl)) pss_nil)
      (pss_cons (ps_set (i := 1) scLaw.nd rfl (Or.inr rfl) (pe_call F.G0 r2 rfl F.D0.g F.D0.k F.D0.b .nil pas0 (pa_cons (pv 0) (pa_cons pe_int pa_nil))))
      (pss_cons (ps_setLc (i := 9) (own := [("_law_c", 7)]) (g := gName 7) (tt := tYes) (te := tOp (rI0 fun i j => .int (i - j)) (tCall spDraw [] E0 (tCons (tVar 1) (tCons (tOp (rI0 fun i j => .int (i + j)) (tVar 2) (tC (.int 2))) tNil))) (tC (.int 1))) rfl scLaw.nd rfl rfl (sw_true rfl rfl rfl (by decide +kernel)) (pi_range1 rfl W.range (pa_cons (pv 2) pa_nil)) (blkOk_by (N := nLaw) (sc := defScope s_law) (by decide +kernel))
          (fun _ _ _ _ _ => pg_name (i := 7) scLaw.nd rfl (Or.inl rfl)) (fun _ _ _ _ _ => pts_nil) (fun _ _ _ _ _ => pe_op op_sub (pe_call F.G1 r1 rfl F.D1.g F.D1.k F.D1.b .nil pas0 (pa_cons (pv 1) (pa_cons (pe_op op_add (pv 2) pe_int) pa_nil))) pe_int))
      (pss_cons (ps_set (i := 10) scLaw.nd rfl (Or.inl rfl) (pe_callB cr_sortedI (by rfl) W.sorted boot_sorted (pa_cons (pe_l1 (own := [("_law_number", 11)]) (g := gName 11) (te := tCB rInt (tCons (tVar 11) tNil)) rfl scLaw.nd (pi_list (pv 9)) (blkOk_by (N := nLaw) (sc := defScope s_law) (by decide +kernel))
          (fun _ _ _ _ _ => pg_name (i := 11) scLaw.nd rfl (Or.inl rfl)) (fun _ _ _ _ _ => pts_nil) (fun _ _ _ _ _ => pe_callTy call_int1 rfl L.int PyProof.Rows.boot_int (pa_cons (pv 11) pa_nil))) pa_nil)))
      (pss_cons (ps_if (PW.pt (pw_or (pt_val (pe_call F.G7 r1 rfl F.D7.g F.D7.k F.D7.b .nil pas0 (pa_cons (pe_lst pa_nil) pa_nil))) (pw_or (pt_cmpR op_ne (pe_call F.G7 r1 rfl F.D7.g F.D7.k F.D7.b .nil pas0 (pa_cons (pv 9) pa_nil)) (pe_call F.GC r1 rfl F.DC.g F.DC.k F.DC.b .nil pas0 (pa_cons (pv 9) pa_nil)) (nomark _)) (pw_or1 (pt_cmpR op_ne (pe_call F.G7 r1 rfl F.D7.g F.D7.k F.D7.b .nil pas0 (pa_cons (pv 10) pa_nil)) (pe_call F.GC r1 rfl F.DC.g F.DC.k F.DC.b .nil pas0 (pa_cons (pv 10) pa_nil)) (nomark _)))))) (pss_one (ps_ret pe_bl)) pss_nil)
      (pss_one (ps_ret (pe_call F.GD r7 rfl F.DD.g F.DD.k F.DD.b .nil pas0 (pa_cons (pv 1) (pa_cons (pv 6) (pa_cons (pv 8) pa_nil)))))))))))))))))))))))), ?_⟩
    refine src_go (σ := [some (.ref a), none, none, none, none, none, none, none, none, none, none, none]) (i := 0) (k := 0) hS hz rfl fun p1 H1 np1 e1 s1 => ?_
    have na1 : off H1 p1 p1 = none := off_none
    refine q_asgD (σ := [some (.ref a), some (.ref p1), none, none, none, none, none, none, none, none, none, none]) (G := off H1 p1) (a := p1) (k := 0 + 1) (R := fun v => ∃ n : Nat, v = .int (n : Int) ∧ 1 ≤ n ∧ n ≤ 4) (ed_op (ed_of ev_c) (fun _ _ => ed_draw rfl ev_c (by decide) na1) fun x y rx ⟨r, ry, r0, r1⟩ => by subst rx ry; exact ⟨_, ⟨(1 + r).toNat, by rw [Int.toNat_of_nonneg (by omega)], by omega, by omega⟩, rv_I0⟩) off_ex s1 (by decide) fun v H2 ⟨n, hv, n1, n4⟩ e2 b2 s2 => ?_
    subst hv
    have E2 : Ex H H2 := b2.base e1 np1
    have n5 : n ≤ 5 := by omega
    have WN := walk_of n1 n5
    refine q_asgW (ew_call (ea_cons (ev_var rfl) ea_nil) fun H1 e Q q E => ⟨n, rfl, n1, n5, q⟩) fun rp ry H3 _ e3 h3 R3 => ?_
    refine q_asgW (ew_walk (ea_cons (ev_var rfl) ea_nil) n1 n5) fun wp wy H4 _ e4 h4 R4 => ?_
    have h34 := e4 _ _ h3
    have R34 := R3.mono e4
    refine q_when (b := false) (et_is (et_or (a := false) (b := false) (et_is (ev_neI (ev_is (ev_len (K := K) (ev_var rfl) (sq_of h4)) (by rw [R4.1])) (ev_is (ev_len (K := K) (ev_var rfl) (sq_of h34)) (by rw [R34.1]))) (by simp)) fun _ => et_is (et_or (a := false) (b := false) (et_is (et_not (et_B (ev_call (z := .bl true) (ea_cons ev_c ea_nil) (sv_wr (by decide))))) rfl) fun _ => et_is (et_not (et_B (ev_call (z := .bl true) (ea_cons ev_c ea_nil) (sv_wr (by decide))))) rfl) rfl) rfl) (fun z => Bool.noConfusion z) fun _ H5 e5 => ?_
    have h35 := e5 _ _ h34
    have h45 := e5 _ _ h4
    have R35 := R34.mono e5
    have R45 := R4.mono e5
    refine q_when (b := false) (fun H6 e6 Q6 q6 => ?_) (fun z => Bool.noConfusion z) fun _ H7 e7 => ?_
    · refine (ew_call (sp := spF2) (E := E0) (σ := [some (.ref a), some (.ref p1), some (.int (n : Int)), some (.ref rp), some (.ref wp), none, none, none, none, none, none, none]) (H := H5) (tA := tCons (tC (.int 8)) tNil) (W := [z8, z81]) (vs := [.int 8]) (ea_cons ev_c ea_nil) fun H1 e Q q E => ⟨rfl, q⟩) H6 e6 _ fun p ys H8 hp e8 h8 R8 => ?_
      refine (ew_two (σ := [some (.ref a), some (.ref p1), some (.int (n : Int)), some (.ref rp), some (.ref wp), none, none, none, none, none, none, none]) (H := H8) (xs := nv z8) (ys := nv z81) (el_lst (vs := nv z8) (ea_cons ev_c (ea_cons ev_c (ea_cons ev_c (ea_cons ev_c (ea_cons ev_c (ea_cons ev_c (ea_cons ev_c (ea_cons ev_c ea_nil)))))))) (by decide)) (el_lst (vs := nv z81) (ea_cons ev_c (ea_cons ev_c (ea_cons ev_c (ea_cons ev_c (ea_cons ev_c (ea_cons ev_c (ea_cons ev_c (ea_cons ev_c ea_nil)))))))) (by decide))) H8 (Ex.refl _) _ fun q r t H9 _ _ _ _ _ _ e9 g9 gr gt => ?_
      refine rv_neD (K := K) (d := .list ([z8, z81].map dN)) (e := .list ([z8, z81].map dN)) (H := H9) (fun HA eA => .lst (sq_of (eA _ _ (e9 _ _ h8))) (dp_rows (R8.mono (e9.trans eA)))) (fun HA eA => .lst (sq_of (eA _ _ g9)) (.cons (dp_nums (sq_of gr) HA eA) (.cons (dp_nums (sq_of gt) HA eA) .nil))) (shaped_rows _) (shaped_rows _) H9 (Ex.refl _) _ fun HB eB => ⟨_, rfl, ?_⟩
      rw [eqv_self (shaped_rows _)]
      exact q6 HB ((e8.trans e9).trans eB)
    have e57 := e7
    have h37 := e7 _ _ h35
    have h47 := e7 _ _ h45
    have R37 := R35.mono e7
    have R47 := R45.mono e7
    refine q_forI (H := H7) (xs := nums 0 (rises n).length) (ei_size (n := (rises n).length) (ev_is (ev_len (K := K) (ev_var rfl) (sq_of h37)) (by rw [R37.1])) (by have := WN.small; omega)) (Ex.refl H7) (fun G i σ' H' => (∃ v, σ' = [some (.ref a), some (.ref p1), some (.int (n : Int)), some (.ref rp), some (.ref wp), v, none, none, none, none, none, none]) ∧ Ex H7 H') (fun G H2 _ e _ => ⟨⟨none, rfl⟩, e⟩) ?_ ?_
    · rintro G i y σ' H' eG eG' hy ⟨⟨v, rfl⟩, e⟩
      obtain ⟨hi, rfl⟩ := nums_at hy
      rw [Int.zero_add]
      obtain ⟨rq, hr1, hr2⟩ := (R37.mono e).2 i hi
      obtain ⟨wq, hw1, hw2⟩ := (R47.mono e).2 i hi
      have hT : (rises n).getD i [] ∈ rises n := getD_mem hi
      have hlen := WN.len i hi
      have R := rises_ris n1 n4 hT
      generalize (rises n).getD i [] = T at hr2 hw2 hT hlen R
      have er : ∀ {H8 : Hp}, Ex H' H8 → Ev (tOp (rIxL K) (tVar 3) (tVar 5)) [some (.ref a), some (.ref p1), some (.int (n : Int)), some (.ref rp), some (.ref wp), some (.int (i : Int)), none, none, none, none, none, none] H8 (.ref rq) := fun e8 => ev_op (ev_var rfl) (ev_var rfl) (rv_ixL (sq_of (e8 _ _ (e _ _ h37))) (by rw [atI_nat]; exact hr1))
      have ew : ∀ {H8 : Hp}, Ex H' H8 → Ev (tOp (rIxL K) (tVar 4) (tVar 5)) [some (.ref a), some (.ref p1), some (.int (n : Int)), some (.ref rp), some (.ref wp), some (.int (i : Int)), none, none, none, none, none, none] H8 (.ref wq) := fun e8 => ev_op (ev_var rfl) (ev_var rfl) (rv_ixL (sq_of (e8 _ _ (e _ _ h47))) (by rw [atI_nat]; exact hw1))
      refine q_when (b := false) (et_is (et_or (a := false) (b := false) (et_is (et_not (et_B (ev_same (K := K) (U := T) (ew (Ex.refl _)) (er (Ex.refl _)) (sq_of hw2) (sq_of hr2) (by omega)))) rfl) fun _ => et_is (et_test (ev_op (x := .bl true) (ev_is (ev_call (ea_cons (ew (Ex.refl _)) ea_nil) (sv_risZ (K := K) (zs := T.map fun (k : Nat) => (k : Int)) (by rw [← nv_iv]; exact sq_of hw2) (by rw [List.length_map]; omega))) (by rw [risB_yes R.Z])) ev_c rv_notB)) rfl) rfl) (fun z => Bool.noConfusion z) fun _ H8 e8 => ?_
      have hr8 := e8 _ _ hr2
      refine s_when (b := false) (et_is (et_or (a := false) (b := false) (et_is (et_not (et_B (ev_call (z := .bl true) (ea_cons (er e8) ea_nil) (sv_bh (K := K) (sq_of hr8) R (by omega))))) rfl) fun _ => et_is (et_not (et_B (ev_call (z := .bl true) (ea_cons (er e8) ea_nil) (sv_th (K := K) (sq_of hr8) R (by omega))))) rfl) rfl) (fun z => Bool.noConfusion z) fun _ H9 e9 => ⟨(eG'.trans e8).trans e9, ⟨_, rfl⟩, (e.trans e8).trans e9⟩
    rintro G σ' H' eG eG' ⟨⟨v5, rfl⟩, e⟩
    have E' : Ex H H' := (((E2.trans e3).trans e4).trans e5).trans (e7.trans e)
    refine src_go (σ := [some (.ref a), some (.ref p1), some (.int (n : Int)), some (.ref rp), some (.ref wp), v5, none, none, none, none, none, none]) (i := 0) (k := 1) (ex_l E' hS) hz rfl fun p2 H8 np2 e8 s8 => ?_
    have na2 : off H8 p2 p2 = none := off_none
    refine q_asgD (σ := [some (.ref a), some (.ref p2), some (.int (n : Int)), some (.ref rp), some (.ref wp), v5, none, none, none, none, none, none]) (G := off H8 p2) (a := p2) (k := 2) (R := Rsize 60) (ed_call (ea_cons (ev_var rfl) (ea_cons ev_c (ea_cons ev_c ea_nil))) (fun n H1 e s hn Q q E => ⟨5, 60, by decide, by decide, by decide, p2, n, rfl, s, hn, q⟩) na2) off_ex s8 (by decide) fun v H9 ⟨r, hv, rl, rh⟩ e9 b9 s9 => ?_
    obtain ⟨m, rfl⟩ : ∃ m : Nat, r = (m : Int) := ⟨r.toNat, by omega⟩
    subst hv
    have m1 : 1 ≤ m := by omega
    have m60 : m ≤ 60 := by omega
    have E8 : Ex H H8 := E'.trans e8
    have hp2 : H p2 = none := fresh_back E' np2
    refine q_srtD (P := P) (w := w) (K := K) (σ := [some (.ref a), some (.ref p2), some (.int (m : Int)), some (.ref rp), some (.ref wp), v5, none, none, none, none, none, none]) (G := off H8 p2) (a := p2) (n := m) rfl (fun _ => rfl) (fun _ => rfl) (fun _ => rfl) m1 m60 e9 na2 s9 (by omega) fun op T1 HA nA npA eA bA sA hA lA RA GA => ?_
    refine q_srtD (P := P) (w := w) (K := K) (σ := [some (.ref a), some (.ref p2), some (.int (m : Int)), some (.ref rp), some (.ref wp), v5, some (.ref op), none, none, none, none, none]) (G := off H8 p2) (a := p2) (n := m) rfl (fun _ => rfl) (fun _ => rfl) (fun _ => rfl) m1 m60 eA na2 sA (by omega) fun qp T2 HB nB npB eB bB sB hB lB RB GB => ?_
    have hAB := bB _ _ npA hA
    have E9 : Ex H H9 := b9.base E8 hp2
    have EB : Ex H HB := (bA.trans bB).base E9 hp2
    have nop : op ≠ qp := fun z => by rw [← z, hA] at nB; cases nB
    have opH : H op = none := by
      cases z : H op with
      | none => rfl
      | some o => rw [E9 _ _ z] at nA; cases nA
    have qpH : H qp = none := by
      cases z : H qp with
      | none => rfl
      | some o => rw [bA.base E9 hp2 _ _ z] at nB; cases nB
    show tSeq _ _ _ ([some (.ref a), some (.ref p2), some (.int (m : Int)), some (.ref rp), some (.ref wp), v5, some (.ref op), none, some (.ref qp), none, none, none] : L2.St) HB
    refine q_when (b := false) (et_is (et_or (a := false) (b := false) (et_is (et_not (et_B (ev_call (z := .bl true) (ea_cons (ev_var rfl) ea_nil) (sv_bh (K := K) (sq_of hAB) RA (by omega))))) rfl) fun _ => et_is (et_not (et_B (ev_call (z := .bl true) (ea_cons (ev_var rfl) ea_nil) (sv_th (K := K) (sq_of hAB) RA (by omega))))) rfl) rfl) (fun z => Bool.noConfusion z) fun _ HC eC => ?_
    have hAC := eC _ _ hAB
    have hBC := eC _ _ hB
    refine q_setL (j := 0) hAC ev_c (ev_var rfl) ev_c (by rw [List.length_map]; omega) fun HD eD => ?_
    have hBD := eD _ _ hBC
    have ED : Ex H (upd HD op (.lst ((nv T1).set 0 (.int 0)))) := Ex.mut ((EB.trans eC).trans eD) opH
    have hD : (upd HD op (.lst ((nv T1).set 0 (.int 0)))) op = some (.lst (nv (T1.set 0 0))) := by rw [upd_same, nv, nv, List.map_set]; rfl
    have hBD2 : (upd HD op (.lst ((nv T1).set 0 (.int 0)))) qp = some (.lst (nv T2)) := by rw [upd_ne (Ne.symm nop)]; exact hBD
    show tSeq _ _ _ ([some (.ref a), some (.ref p2), some (.int (m : Int)), some (.ref rp), some (.ref wp), v5, some (.ref op), none, some (.ref qp), none, none, none] : L2.St) (upd HD op (.lst ((nv T1).set 0 (.int 0))))
    generalize upd HD op (.lst ((nv T1).set 0 (.int 0))) = HE at ED hD hBD2
    refine q_setL (j := 0) hBD2 ev_c (ev_var rfl) ev_c (by rw [List.length_map]; omega) fun HF eF => ?_
    have hDF := eF _ _ hD
    have EF : Ex H (upd HF qp (.lst ((nv T2).set 0 (.int 0)))) := Ex.mut (ED.trans eF) qpH
    have hF : (upd HF qp (.lst ((nv T2).set 0 (.int 0)))) qp = some (.lst (nv (T2.set 0 0))) := by rw [upd_same, nv, nv, List.map_set]; rfl
    have hDF2 : (upd HF qp (.lst ((nv T2).set 0 (.int 0)))) op = some (.lst (nv (T1.set 0 0))) := by rw [upd_ne nop]; exact hDF
    show tSeq _ _ _ ([some (.ref a), some (.ref p2), some (.int (m : Int)), some (.ref rp), some (.ref wp), v5, some (.ref op), none, some (.ref qp), none, none, none] : L2.St) (upd HF qp (.lst ((nv T2).set 0 (.int 0))))
    generalize upd HF qp (.lst ((nv T2).set 0 (.int 0))) = HG at EF hF hDF2
    have l1 : (T1.set 0 0).length = m := by rw [List.length_set]; exact lA
    have l2 : (T2.set 0 0).length = m := by rw [List.length_set]; exact lB
    generalize T1.set 0 0 = T at hDF2 GA l1
    generalize T2.set 0 0 = U at hF GB l2
    refine q_when (b := false) (et_is (et_or (a := false) (b := false) (et_is (et_not (et_B (ev_call (z := .bl true) (ea_cons (ev_var rfl) ea_nil) (sv_bh (K := K) (sq_of hDF2) GA.ris (by omega))))) rfl) fun _ => et_is (et_or (a := false) (b := false) (et_is (et_not (et_B (ev_call (z := .bl true) (ea_cons (ev_var rfl) ea_nil) (sv_bh (K := K) (sq_of hF) GB.ris (by omega))))) rfl) fun _ => et_is (et_not (et_B (ev_call (z := .bl true) (ea_cons (ev_var rfl) (ea_cons (ev_var rfl) ea_nil)) (sv_tw (K := K) (sq_of hDF2) (sq_of hF) GA GB (by omega))))) rfl) rfl) rfl) (fun z => Bool.noConfusion z) fun _ HH eH => ?_
    have EH : Ex H HH := EF.trans eH
    refine src_go (σ := [some (.ref a), some (.ref p2), some (.int (m : Int)), some (.ref rp), some (.ref wp), v5, some (.ref op), none, some (.ref qp), none, none, none]) (i := 0) (k := 2) (ex_l EH hS) hz rfl fun p3 HI np3 eI sI => ?_
    have na3 : off HI p3 p3 = none := off_none
    have hp3 : H p3 = none := fresh_back EH np3
    have hopI := eI _ _ (eH _ _ hDF2)
    have hqpI := eI _ _ (eH _ _ hF)
    have nop3 : op ≠ p3 := fun z => by rw [← z, eH _ _ hDF2] at np3; cases np3
    have nqp3 : qp ≠ p3 := fun z => by rw [← z, eH _ _ hF] at np3; cases np3
    have lm : (nums 0 m).length = m := nums_len 0 m
    refine q_asgE (σ := [some (.ref a), some (.ref p3), some (.int (m : Int)), some (.ref rp), some (.ref wp), v5, some (.ref op), none, some (.ref qp), none, none, none]) (fun v HJ => ∃ p zs, v = .ref p ∧ HJ p = some (.lst (iv zs)) ∧ zs.length ≤ 60 ∧ ExB p3 HI HJ ∧ Src HJ p3 m) (fun Q q => kc_drawI (P := P) (w := w) (σ := [some (.ref a), some (.ref p3), some (.int (m : Int)), some (.ref rp), some (.ref wp), v5, some (.ref op), none, some (.ref qp), none, none, none]) (G := off HI p3) (a := p3) (k1 := 0) (k2 := 1) (Rb := fun b => b = true) (xs := nums 0 m) (wi := iRng1 (tCons (tVar 2) tNil)) (j := 7) (vs := [7]) (tt := tYes) (te := tOp (rI0 fun i j => .int (i - j)) (tCall spDraw [] E0 (tCons (tVar 1) (tCons (tOp (rI0 fun i j => .int (i + j)) (tVar 2) (tC (.int 2))) tNil))) (tC (.int 1))) True (fun _ _ z => z) (ei_size (ev_var rfl) (by omega)) na3 (by rw [lm]; omega) (fun _ => rfl)
      (fun i x G1 _ g1 hx => etd_yes) (fun i x G1 _ g1 hx => ?_) off_ex sI (by rw [lm]; omega) fun p zs HJ hp eJ bJ sJ hJ m1' m2' => ?_) fun v HJ ⟨np, zs, hv, hJ, lz, bJ, sJ⟩ => ?_
    · exact ed_op (k1 := 1) (k2 := 0) (ed_draw (m := (m : Int) + 2) rfl (ev_op (ev_var rfl) ev_c rv_I0) (by omega) g1) (fun _ _ => ed_of ev_c) fun x y ⟨r, rx, _⟩ ry => by subst rx ry; exact ⟨_, ⟨_, rfl⟩, rv_I0⟩
    · rw [lm] at m1' sJ
      exact q _ _ ⟨p, zs, rfl, hJ, by omega, bJ, sJ.more (by omega)⟩
    subst hv
    have hopJ := bJ _ _ nop3 hopI
    have hqpJ := bJ _ _ nqp3 hqpI
    have EJ : Ex H HJ := bJ.base (EH.trans eI) hp3
    refine q_asgE (fun v HK => ∃ p xs, v = .ref p ∧ HK p = some (.lst (iv xs)) ∧ xs.length ≤ 60 ∧ Ex HJ HK) (fun Q q => tcb_one ((ek_kc (P := P) (w := w) (σ := [some (.ref a), some (.ref p3), some (.int (m : Int)), some (.ref rp), some (.ref wp), v5, some (.ref op), none, some (.ref qp), some (.ref np), none, none]) (H := HJ) (vs := [11]) (j := 11) (te := tCB rInt (tCons (tVar 11) tNil)) (wi := iList K (tVar 9)) .lst (iv zs) (ei_list (ev_var rfl) (sq_of hJ)) rfl (by rw [List.length_map]; omega) (fun _ _ => trivial) (fun _ => rfl) fun i x y H1 e1 hx hy => ?_).lst HJ (Ex.refl _) _ fun p HK hp eK hK => ?_)) fun v HK ⟨op2, xs, hv, hK, lx, eK⟩ => ?_
    · obtain ⟨hi, rfl⟩ := iv_get hx
      obtain ⟨hi2, rfl⟩ := iv_get hy
      exact ev_int (ev_var rfl)
    · refine ⟨p, zs, rfl, sq_of hK, fun ns' p' hpm hpw hp' => q _ _ ⟨p', ns', rfl, upd_same, by rw [hpm.length_eq]; exact lz, eK.trans (Ex.new hp')⟩⟩
    subst hv
    have hJK := eK _ _ hJ
    show tSeq _ _ _ ([some (.ref a), some (.ref p3), some (.int (m : Int)), some (.ref rp), some (.ref wp), v5, some (.ref op), none, some (.ref qp), some (.ref np), some (.ref op2), none] : L2.St) HK
    have noRis : risB [] = false := risB_no fun r => absurd r.pos (Nat.lt_irrefl 0)
    refine q_when (b := false) (et_is (et_or (a := false) (b := false) (et_is (et_B (b := risB []) ev_ris0) noRis) fun _ => et_is (et_or (a := false) (b := false) (et_is (et_neB (ev_call (ea_cons (ev_var rfl) ea_nil) (sv_risZ (K := K) (sq_of hJK) (by omega))) (ev_call (ea_cons (ev_var rfl) ea_nil) (sv_risZ (K := K) (sq_of hJK) (by omega)))) (by simp)) fun _ => et_is (et_neB (ev_call (ea_cons (ev_var rfl) ea_nil) (sv_risZ (K := K) (sq_of hK) (by omega))) (ev_call (ea_cons (ev_var rfl) ea_nil) (sv_risZ (K := K) (sq_of hK) (by omega)))) (by simp)) rfl) rfl) (fun z => Bool.noConfusion z) fun _ HL eL => ?_
    have eJL := eK.trans eL
    refine ⟨.ref p3, rfl, .ref op, rfl, .ref qp, rfl, p3, op, qp, m, T, U, rfl, sJ.mono eJL, by omega, nop3, nqp3, eJL _ _ hopJ, eJL _ _ hqpJ, GA, GB, by omega, fun HM bM => k HM (bM.base (EJ.trans eJL) hp3)⟩
end
end Z
end
/-! Y27 -/
set_option linter.all false
set_option maxRecDepth 100000
set_option maxHeartbeats 4000000
noncomputable section
namespace Z
open PySem PySem.Spec PyProof.Rows L2 PySem.Froz Evl TS GenW

section
variable {P : Program} {w : World} {K : PySem.W.Frag} {mg : PySem.Str → Option Value} {base : Heap}
theorem all_law {CF CW CS CG CD fXS fXG fI fL fP fD fIt fW fT fS fH pP pL : Addr} {mcF : Value} {dXS dXG dI dL dP dD dIt dW dT dS dH : FuncData} {f0 f1 f2 f3 f4 f5 f6 f7 f8 f9 f10 f11 f12 f13 f14 f15 f16 f17 f18 f19 f20 f21 f22 f23 f24 f25 f26 f27 f28 f29 f30 f31 f32 f33 f34 f35 : Addr} {d0 d1 d2 d3 d4 d5 d6 d7 d8 d9 d10 d11 d12 d13 d14 d15 d16 d17 d18 d19 d20 d21 d22 d23 d24 d25 d26 d27 d28 d29 d30 d31 d32 d33 d34 d35 : FuncData} (W : Wd mg) (L : Lb mg) (str : mg "str" = none) (XS : XSteps K mg CS fXS dXS) (XG : XNotG K mg CG fXG dXG) (N : Kn K mg CS CG CD) (FC : FCls K mg CF) (WC : WCls K mg CW) (M : FMet K CF fD fP pP fIt) (kF : Mk K CF fI) (kW : Mk K CW fW)
    (mS : Meth K CW "_shown" fS) (mT : Meth K CW "table_of" fT) (mH : Meth K CW "head_table" fH) (rF : ClX.CRead K CF mcF) (sL : SMet K CF mcF "listed" pL fL)
    (EI : FunD K "__init__" "Facts.__init__" (defArgs s_finit) (defBody s_finit) (defScope s_finit) [] [("paired", .str "")] fI dI)
    (EL : DatD K "listed" "Facts.listed" s_listed [.str ""] [] ["pairs", "paired"] fL dL) (EP : DatM K "paired" "Facts.paired" s_paired ["self"] fP dP) (ED : DatM K "dial_list" "Facts.dial_list" s_fdials ["self"] fD dD) (Et : DatM K "__iter__" "Facts.__iter__" s_fiter ["self"] fIt dIt)
    (EW : DatD K "__init__" "World.__init__" s_winit [.non] [] pWI fW dW) (ET : DatM K "table_of" "World.table_of" s_table_of ["self", "letter"] fT dT) (ES : DatM K "_shown" "World._shown" s_shown ["self", "letter"] fS dS) (EH : DatM K "head_table" "World.head_table" s_headT ["self", "head"] fH dH)
    (D0 : Dat K mg "is_small" s_is_small ["text"] f0 d0)
    (D1 : Dat K mg "check_steps" s_check_steps ["many", "most"] f1 d1)
    (D2 : Dat K mg "check_places" s_checkP ["places", "steps"] f2 d2)
    (D3 : Dat K mg "rising" s_rising ["table"] f3 d3)
    (D4 : Dat K mg "still_table" s_still ["steps"] f4 d4)
    (D5 : Dat K mg "threshold" s_thr ["table", "least"] f5 d5)
    (D6 : Dat K mg "back_table" s_back ["table"] f6 d6)
    (D7 : Dat K mg "put_on" s_put_on ["outer", "inner"] f7 d7)
    (D8 : Dat K mg "lesser_table" s_lesser ["one", "other"] f8 d8)
    (D9 : Dat K mg "greater_table" s_greater ["one", "other"] f9 d9)
    (D10 : Dat K mg "walk_tables" s_walk ["steps"] f10 d10)
    (D11 : Dat K mg "is_part" s_is_part ["text"] f11 d11)
    (D12 : Dat K mg "told_facts" s_told ["facts"] f12 d12)
    (D13 : Dat K mg "_different" s_diff ["pairs"] f13 d13)
    (D14 : Dat K mg "_check_told" s_checkT ["pairs", "paired", "most"] f14 d14)
    (D15 : Dat K mg "_spread" s_spread ["low", "rows"] f15 d15)
    (D16 : Dat K mg "_check_tables" s_checkB ["tables", "steps"] f16 d16)
    (D17 : Dat K mg "_check_kept" s_checkK ["tables", "steps", "facts"] f17 d17)
    (D18 : Dat K mg "_law_read" s_read ["_law_script", "_law_k"] f18 d18)
    (D19 : Dat K mg "_law_source" s_source ["_law_script", "_law_k"] f19 d19)
    (D20 : Dat K mg "_law_draw" s_draw ["_law_source_here", "_law_many"] f20 d20)
    (D21 : Dat K mg "_law_pick" s_pick ["_law_source_here", "_law_pool", "_law_many"] f21 d21)
    (D22 : Dat K mg "_law_size" s_size ["_law_source_here", "_law_usual", "_law_most"] f22 d22)
    (D23 : Dat K mg "_law_risings" s_ris ["_law_size_here"] f23 d23)
    (D24 : Dat K mg "_law_is_integer" s_isint ["_law_actual"] f24 d24)
    (D25 : Dat K mg "_law_same_steps" s_same ["_law_actual", "_law_due"] f25 d25)
    (D26 : Dat K mg "_law_back_of" s_back_of ["_law_table"] f26 d26)
    (D27 : Dat K mg "_law_walk_refused" s_walk_ref ["_law_steps"] f27 d27)
    (D28 : Dat K mg "_law_first_two" s_first2 ["_law_steps"] f28 d28)
    (D29 : Dat K mg "_law_meets" s_meets ["_law_table", "_law_back"] f29 d29)
    (D30 : Dat K mg "_law_back_holds" s_bh ["_law_table"] f30 d30)
    (D31 : Dat K mg "_law_thresholds_hold" s_th ["_law_table"] f31 d31)
    (D32 : Dat K mg "_law_rises" s_rs ["_law_numbers"] f32 d32)
    (D33 : Dat K mg "_law_two_hold" s_tw ["_law_one", "_law_other"] f33 d33)
    (D34 : Dat K mg "_law_world_holds" s_wh ["_law_source_here", "_law_one", "_law_other"] f34 d34)
    (D35 : Dat K mg "law" s_law ["_law_script"] f35 d35)
    : FnOk P w K mg base (L2.CX P w) 9 f35 d35 ["_law_script"] (spLaw K) := by
  have G0 := ok_is_small (P := P) (w := w) (base := base) W D0
  have G1 := ok_check_steps (P := P) (w := w) (base := base) D1
  have GcsB := ok_check_stepsB (P := P) (w := w) (base := base) XS D1
  have G2 := ok_checkP (P := P) (w := w) (base := base) D2
  have G3 := ok_rising (P := P) (w := w) (base := base) W D3
  have GrZ := ok_risingZ (P := P) (w := w) (base := base) W D3
  have G4 := ok_still (P := P) (w := w) (base := base) W D4
  have G5 := ok_thr (P := P) (w := w) (base := base) W D5
  have GtI := ok_thrI (P := P) (w := w) (base := base) W D5
  have G6 := ok_back (P := P) (w := w) (base := base) W D6 D5 G5
  have GbB := ok_backB (P := P) (w := w) (base := base) W XG D6 D5 G5
  have G7 := ok_put_on (P := P) (w := w) (base := base) D7
  have G8 := ok_lesser (P := P) (w := w) (base := base) W D8
  have G9 := ok_greater (P := P) (w := w) (base := base) W D9
  have G10 := ok_walk (P := P) (w := w) (base := base) W D10 D1 G1
  have GwX := ok_walkX (P := P) (w := w) (base := base) W D10 D1 GcsB
  have Gw2 := ok_walk2 (P := P) (w := w) (base := base) W D10 D1 G1
  have G11 := ok_is_part (P := P) (w := w) (base := base) D11 D0 G0
  have G12 := ok_told (P := P) (w := w) (base := base) D12
  have G13 := ok_diff (P := P) (w := w) (base := base) W D13
  have G14 := ok_checkT (P := P) (w := w) (base := base) W D14 D0 G0 D13 G13 D11 G11
  have G15 := ok_spread (P := P) (w := w) (base := base) W D15
  have G16 := ok_checkB (P := P) (w := w) (base := base) W D16 D0 G0 D3 G3
  have GI := ok_finit (P := P) (w := w) (base := base) W FC EI D14 G14 D13 G13 D15 G15
  have GL := ok_listed (P := P) (w := w) (base := base) W FC kF EL GI
  have GP := ok_paired (P := P) (w := w) (base := base) FC EP
  have GD := ok_fdials (P := P) (w := w) (base := base) W FC ED
  have Gt := ok_fiter (P := P) (w := w) (base := base) W FC Et
  have G17 := ok_checkK (P := P) (w := w) (base := base) W FC M D17 D4 G4 ED GD EP GP Gt
  have GW := ok_winit (P := P) (w := w) (base := base) W FC WC M EW D1 G1 D2 G2 D16 G16 D12 G12 D17 G17 D6 G6 EP GP
  have GS := ok_shown (P := P) (w := w) (base := base) WC ES
  have GT := ok_table_of (P := P) (w := w) (base := base) W WC mS ET ES GS
  have GH := ok_headT (P := P) (w := w) (base := base) W WC mT EH ET GT D4 G4
  have G18 := ok_read (P := P) (w := w) (base := base) W D18
  have G19 := ok_source (P := P) (w := w) (base := base) L D19 D18 G18
  have G20 := ok_draw (P := P) (w := w) (base := base) L D20
  have G21 := ok_pick (P := P) (w := w) (base := base) W D21 D20 G20
  have G22 := ok_size (P := P) (w := w) (base := base) D22 D20 G20
  have G23 := ok_risings (P := P) (w := w) (base := base) W D23
  have G24 := ok_isint (P := P) (w := w) (base := base) L D24
  have G25 := ok_same (P := P) (w := w) (base := base) W L D25 D24 G24
  have G26 := ok_back_of (P := P) (w := w) (base := base) L XG N D26 D6 GbB
  have G27 := ok_walk_refused (P := P) (w := w) (base := base) W L XS N D27 D10 GwX
  have G28 := ok_first_two (P := P) (w := w) (base := base) W D28 D10 Gw2
  have G29 := ok_meets (P := P) (w := w) (base := base) W L D29 D24 G24
  have G30 := ok_bh (P := P) (w := w) (base := base) W D30 D26 G26 D29 G29 D7 G7 D25 G25
  have G31 := ok_th (P := P) (w := w) (base := base) W D31 D5 GtI D24 G24
  have G32 := ok_rises (P := P) (w := w) (base := base) W D32
  have G33 := ok_two_hold (P := P) (w := w) (base := base) W L D33 D25 G25 D8 G8 D9 G9 D6 G6
  have F : WorldFn P w K mg base CF CW mcF f21 f29 f25 fL fW fT fH pL d21 d29 d25 dL dW dT dH := ⟨W, L, str, FC, WC, D21, G21, D29, G29, D25, G25, rF, sL, EL, GL, kW, EW, GW, mT, ET, GT, mH, EH, GH⟩
  have G34 := ok_wh F D34
  have Fl : LawFn P w K mg base f19 f20 f23 f10 f27 f28 f25 f3 f30 f31 f22 f33 f32 f34 d19 d20 d23 d10 d27 d28 d25 d3 d30 d31 d22 d33 d32 d34 := ⟨W, L, D19, G19, D20, G20, D23, G23, D10, G10, D27, G27, D28, G28, D25, G25, D3, GrZ, D30, G30, D31, G31, D22, G22, D33, G33, D32, G32, D34, G34⟩
  exact ok_law Fl D35
end
end Z
end
/-! Y28 -/
set_option linter.all false
set_option maxRecDepth 100000
set_option maxHeartbeats 4000000
noncomputable section
namespace Z
open PySem PySem.Spec PyProof.Rows L2 PySem.Froz Evl TS GenW

/-! ### the head's facts, each a test over the part of the heap that is looked at -/
def mcT : Value := .type "type"
def cA (K : PySem.W.Frag) (x : PySem.Str) : Addr := He.ga K x
/-- the object that the class x has under the name m -/
def oA (K : PySem.W.Frag) (x m : PySem.Str) : Addr := He.ma K (He.ga K x) m
/-- the def inside of it -/
def inA (K : PySem.W.Frag) (x m : PySem.Str) (T : String) : Addr := match PySem.W.recIn K (oA K x m) T with
  | some (.ref g :: _) => g
  | _ => 0
def inB (K : PySem.W.Frag) (x m : PySem.Str) (T : String) : Bool := match PySem.W.recIn K (oA K x m) T with
  | some (.ref _ :: _) => true
  | _ => false
def propB (K : PySem.W.Frag) (x m : PySem.Str) : Bool := He.eqO (PySem.W.findIn K (.ref (cA K x)) m) (some (some (.ref (oA K x m)))) &&
  (He.eqO (PySem.W.specialIn K (.ref (oA K x m)) "__get__") (some (some (.builtin "property.__get__"))) && (decide (PySem.W.takesIn K (.ref (oA K x m)) = some true) && inB K x m "property"))
def statB (K : PySem.W.Frag) (x m : PySem.Str) : Bool := (match PySem.W.findCls K (.ref (cA K x)) mcT m with
  | some (.get (.builtin n) (.ref q) .none (.ref c)) => n == "staticmethod.__get__" && (Nat.beq q (oA K x m) && Nat.beq c (cA K x))
  | _ => false) && (inB K x m "staticmethod" && PySem.W.keepIn K (.ref (inA K x m "staticmethod")))
def readB (K : PySem.W.Frag) (x : PySem.Str) : Bool := PySem.W.readsIn K (cA K x) mcT && He.eqO (PySem.W.specialIn K (.ref (cA K x)) "__getattribute__") (some (some (.builtin "type.__getattribute__")))
def conB (K : PySem.W.Frag) (x m : PySem.Str) (i : Int) : Bool := match PySem.W.findCls K (.ref (cA K x)) mcT m with
  | some (.val (.int j _)) => decide (j = i)
  | _ => false
section
variable {K : PySem.W.Frag} {h : Heap} {mg : PySem.Str → Option Value} {x m : PySem.Str}
theorem inB_ok {T : String} (c : inB K x m T = true) : ∃ rest, PySem.W.recIn K (oA K x m) T = some (.ref (inA K x m T) :: rest) := by
  unfold inB at c
  unfold inA
  split at c
  · rename_i g rest e
    rw [e]
    exact ⟨rest, rfl⟩
  · cases c
theorem propB_ok (c : propB K x m = true) : PropOf K (cA K x) m (oA K x m) (inA K x m "property") := by
  unfold propB at c
  simp only [Bool.and_eq_true, decide_eq_true_eq] at c
  obtain ⟨c1, c2, c3, c4⟩ := c
  exact ⟨He.eqO_ok c1, He.eqO_ok c2, c3, inB_ok c4⟩
theorem statB_ok (c : statB K x m = true) : SMet K (cA K x) mcT m (oA K x m) (inA K x m "staticmethod") := by
  unfold statB at c
  simp only [Bool.and_eq_true] at c
  obtain ⟨c1, c2, c3⟩ := c
  refine ⟨?_, inB_ok c2, c3⟩
  split at c1
  · rename_i n q cc e
    simp only [Bool.and_eq_true, beq_iff_eq] at c1
    obtain ⟨rfl, c5, c6⟩ := c1
    rw [Nat.eq_of_beq_eq_true c5, Nat.eq_of_beq_eq_true c6] at e
    exact e
  · cases c1
theorem readB_ok (c : readB K x = true) : ClX.CRead K (cA K x) mcT := by
  unfold readB at c
  rw [Bool.and_eq_true] at c
  exact ⟨c.1, He.eqO_ok c.2⟩
theorem conB_ok {i : Int} (c : conB K x m i = true) : ∃ t, ClX.CVal K (cA K x) mcT m (.int i) (.int i t) := by
  unfold conB at c
  split at c
  · rename_i j t e
    have ej : j = i := of_decide_eq_true c
    subst ej
    exact ⟨t, e, ⟨t, rfl⟩⟩
  · cases c
/-! a def at an address of its own -/
def fnAt (K : PySem.W.Frag) (a : Addr) : He.FnW :=
  match K.lookup a with
  | some ⟨_, _, .func d, _⟩ =>
    some (d.name, d.qualname, d.params, d.body, d.scope,
      d.globals, d.closure, d.builtins)
  | _ => none
def okAt (K : PySem.W.Frag) (a : Addr) (d : He.DefD) : Bool :=
  match K.lookup a with
  | some ⟨_, _, .func e, _⟩ =>
    PySem.W.keepIn K (.ref a) && (PySem.W.codeIn K e.code d.qual &&
      (He.dflB K e.defaults (d.dvs K) && He.kwdB K e.kwdefaults (d.kws K)))
  | _ => false
theorem fnAt_ok {a : Addr} {d : He.DefD} (e : fnAt K a = d.val) (c : okAt K a d = true) : ∃ fd, FunD K d.name d.qual d.params d.body d.scope (d.dvs K) (d.kws K) a fd := by
  unfold okAt at c
  unfold fnAt at e
  split at c
  · rename_i oc od fd osl l
    rw [l] at e
    simp only [Bool.and_eq_true] at c
    obtain ⟨c1, c2, c3, c4⟩ := c
    obtain ⟨z1, z2, z3, z4, z5, z6, z7, z8, z9, z10, z11, z12, z13, z14, z15⟩ := fd
    have e : (some (z1, z2, z3, z4, z5, z6, z7, z15) : He.FnW) = some (d.name, d.qual, d.params, .stmts d.body, d.scope, mainGlobals, [], builtinsNs) := e
    cases e
    exact ⟨_, ⟨oc, od, z8, z9, z10, z11, z12, z13, z14, osl, rfl, l, c2, He.dflB_ok c3, He.kwdB_ok c4⟩, c1⟩
  · cases c
theorem fun_of {n q : PySem.Str} {st : Stmt} {f : Addr} {fd : FuncData} (F : FunD K n q (defArgs st) (defBody st) (defScope st) [] [] f fd) : Fun K n q st f fd := by
  obtain ⟨⟨oc, od, dV, kV, doc, pm, an, cdv, ct, osl, e, l, c, dv, kv⟩, kp⟩ := F
  rcases dv with ⟨_, rfl⟩ | ⟨z, _⟩
  · exact ⟨⟨oc, od, kV, doc, pm, an, cdv, ct, osl, e, l, c⟩, kp⟩
  · exact absurd rfl z
theorem dat_of (X : K.In h) (G : h.Ns mainGlobals mg) {n : String} {st : Stmt} {ps : List PySem.Str} (c : (He.Fa.glo n).ok K = true) (hF : ∃ fd, FunD K n n (defArgs st) (defBody st) (defScope st) [] [] (He.ga K n) fd)
    (b : ∀ (kV doc pm : Value) (an : Option Addr) (cdv ct : Value) (us : List Value), us.length = ps.length → bindArgs (PySem.W.fnOf n n (defArgs st) (defBody st) (defScope st) .none kV doc pm an cdv ct) ⟨us, []⟩ = pure (ps.zip us)) : ∃ fd, Dat K mg n st ps (He.ga K n) fd := by
  obtain ⟨fd, F⟩ := hF
  exact ⟨fd, fun_of F, (fun_of F).binds b, He.glo_ok X G c, F.kp⟩
theorem datm_of {n q : String} {st : Stmt} {ps : List PySem.Str} {f : Addr} (hF : ∃ fd, FunD K n q (defArgs st) (defBody st) (defScope st) [] [] f fd)
    (b : ∀ (kV doc pm : Value) (an : Option Addr) (cdv ct : Value) (us : List Value), us.length = ps.length → bindArgs (PySem.W.fnOf n q (defArgs st) (defBody st) (defScope st) .none kV doc pm an cdv ct) ⟨us, []⟩ = pure (ps.zip us)) : ∃ fd, DatM K n q st ps f fd := by
  obtain ⟨fd, F⟩ := hF
  exact ⟨fd, fun_of F, (fun_of F).binds b⟩
theorem datd_of {n q : String} {st : Stmt} {ps : List PySem.Str} {f : Addr} {v : V} (hF : ∃ fd, FunD K n q (defArgs st) (defBody st) (defScope st) [v] [] f fd)
    (b : ∀ (T : Addr) (kV doc pm : Value) (an : Option Addr) (cdv ct : Value) (us : List Value) (u : Value), us.length = ps.length →
      ∃ k, bindArgs (PySem.W.fnOf n q (defArgs st) (defBody st) (defScope st) (.ref T) kV doc pm an cdv ct) ⟨us, []⟩ = seqItems? (.ref T) >>= k ∧ k (some #[u]) = pure (ps.zip us)) : ∃ fd, DatD K n q st [v] [] ps f fd := by
  obtain ⟨fd, F⟩ := hF
  refine ⟨fd, F, ?_⟩
  obtain ⟨ds, hv, hb⟩ := F.binds1 (ps := ps) ps.length 1 (by simp) (by simp) fun T kV doc pm an cdv ct us its hu hi => by
    match its, hi with
    | [u], _ =>
      obtain ⟨k, k1, k2⟩ := b T kV doc pm an cdv ct us u hu
      exact ⟨k, k1, by simpa using k2⟩
  cases hv
  exact hb
end
section
variable {K : PySem.W.Frag} {h : Heap} {mg : PySem.Str → Option Value}
/-- the own error class at C, below the one at CD -/
structure At (K : PySem.W.Frag) (C CD : Addr) : Prop where
  ex : ∃ nm q N bs sn sub ab col dd k0 k1 k2 k3 k5, K.lookup C = some (excClassObj nm q C N bs [.ref CD, .type "ValueError", .type "Exception", .type "BaseException", .type "object"] true sn sub ab col dd k0 k1 k2 k3 k5 "ValueError.__new__")
abbrev mroS (C CD : Addr) : List Value := [.ref C, .ref CD, .type "ValueError", .type "Exception", .type "BaseException", .type "object"]
theorem At.cls {C CD : Addr} (A : At K C CD) : ∃ cd, PySem.W.clsIn K C = some cd ∧ cd.mro = mroS C CD ∧ cd.hasDict = true := by
  obtain ⟨nm, q, N, bs, sn, sub, ab, col, dd, k0, k1, k2, k3, k5, e⟩ := A.ex
  exact ⟨{ name := nm, bases := bs, mro := mroS C CD, ns := N, qualname := q, slotNames := sn, hasDict := true, subclasses := sub, abstract := ab, collection := col, hasDel := false }, by unfold PySem.W.clsIn; rw [e], rfl, rfl⟩
theorem At.sub {C CD : Addr} (A : At K C CD) (b : Value) : PySem.W.mroIn K C b = some ((mroS C CD).contains b) := by
  obtain ⟨cd, e, m, _⟩ := A.cls
  unfold PySem.W.mroIn
  rw [e]
  show (if cd.mro.isEmpty then none else some (cd.mro.contains b)) = _
  rw [m]
  rfl
theorem At.ty {C CD : Addr} (A : At K C CD) : PySem.W.typeIn K (.ref C) = some (.type "type") := by
  obtain ⟨nm, q, N, bs, sn, sub, ab, col, dd, k0, k1, k2, k3, k5, e⟩ := A.ex
  show Option.map (fun x => x.cls) (K.lookup C) = _
  rw [e]
  rfl
theorem type_call : PySem.W.findIn K (.type "type") "__call__" = some (some (.builtin "type.__call__")) := by
  show fastLookup "type" "__call__" = _
  decide +kernel
theorem At.keep {C CD : Addr} (A : At K C CD) : PySem.W.keepIn K (.ref C) = true := by
  have t := A.ty
  obtain ⟨nm, q, N, bs, sn, sub, ab, col, dd, k0, k1, k2, k3, k5, e⟩ := A.ex
  have s : PySem.W.specialIn K (.ref C) "__call__" = some (some (.builtin "type.__call__")) := by
    unfold PySem.W.specialIn
    rw [t]
    exact type_call (K := K)
  unfold PySem.W.keepIn
  simp only [e, s]
  rfl
theorem refs_S (CD : Addr) : PySem.HandSPX.refsVE [.ref CD, .type "ValueError", .type "Exception", .type "BaseException", .type "object"] = true := by
  show PySem.HandSPX.refsVE [.type "ValueError", .type "Exception", .type "BaseException", .type "object"] = true
  decide +kernel
theorem con_be (C CD : Addr) : (mroS C CD).contains (.type "BaseException") = true := by simp
theorem con_ob (C CD : Addr) : (mroS C CD).contains (.type "object") = true := by simp
theorem con_ve (C CD : Addr) : (mroS C CD).contains (.type "ValueError") = true := by simp
theorem con_cd (C CD : Addr) : (mroS C CD).contains (.ref CD) = true := by simp
theorem con_c (C CD D : Addr) (h : D ≠ CD) : (mroS C CD).contains (.ref D) = decide (D = C) := by
  rw [Bool.eq_iff_iff]
  simp [h]
theorem At.oex {C CD : Addr} (A : At K C CD) (sa : PySem.W.findIn K (.ref C) "__setattr__" = some (some (.builtin "object.__setattr__"))) : OexC K C where
  cls := by
    obtain ⟨nm, q, N, bs, sn, sub, ab, col, dd, k0, k1, k2, k3, k5, e⟩ := A.ex
    exact ⟨nm, q, N, bs, _, sn, sub, ab, col, dd, k0, k1, k2, k3, k5, e, refs_S CD⟩
  sa := sa
  exC := (A.sub _).trans (congrArg some (con_be C CD))
  tyC := A.ty
  kC := A.keep
theorem obj_get : PySem.W.specialIn K (.builtin "object.__class__") "__get__" = some (some (.builtin "getset_descriptor.__get__")) := by
  have t : PySem.W.typeIn K (.builtin "object.__class__") = some (.type "getset_descriptor") := by
    show PySem.W.pureOf (fastBuiltinType "object.__class__") = _
    kernel_rfl
  unfold PySem.W.specialIn
  rw [t]
  show fastLookup "getset_descriptor" "__get__" = _
  decide +kernel
theorem obj_set : PySem.W.takesIn K (.builtin "object.__class__") = some true := by
  have t : PySem.W.typeIn K (.builtin "object.__class__") = some (.type "getset_descriptor") := by
    show PySem.W.pureOf (fastBuiltinType "object.__class__") = _
    kernel_rfl
  have s : PySem.W.specialIn K (.builtin "object.__class__") "__set__" = some (some (.builtin "getset_descriptor.__set__")) := by
    unfold PySem.W.specialIn
    rw [t]
    show fastLookup "getset_descriptor" "__set__" = _
    decide +kernel
  unfold PySem.W.takesIn
  rw [s]
theorem At.xc {C CD : Addr} (A : At K C CD) (sa : PySem.W.findIn K (.ref C) "__setattr__" = some (some (.builtin "object.__setattr__"))) (ga : PySem.W.findIn K (.ref C) "__getattribute__" = some (some (.builtin "BaseException.__getattribute__"))) (gg : PySem.W.findIn K (.ref C) "__getattr__" = some none)
    (ha : PySem.W.findIn K (.ref C) "__class__" = some (some (.builtin "object.__class__"))) : XC K C where
  oex := A.oex sa
  cl := by obtain ⟨cd, e, _⟩ := A.cls; rw [e]; rfl
  ga := ga
  gg := gg
  ha := ha
  hn := obj_get
  ht := obj_set
  hm := (A.sub _).trans (congrArg some (con_ob C CD))
  hd := by obtain ⟨cd, e, _, d⟩ := A.cls; unfold PySem.W.hasDictIn; rw [e]; exact d
theorem At.one {C D CD CE : Addr} (A : At K C CD) (B : At K D CE) (h : D ≠ CD) : IsOne K C (.ref D) (decide (D = C)) := by
  refine ⟨_, .own D, ?_⟩
  unfold PySem.W.kitOne
  by_cases e : D = C
  · subst e
    rw [if_pos (by simp), decide_eq_true rfl]
  · rw [if_neg (by simpa using fun q => e q.symm)]
    obtain ⟨cd, c, _⟩ := B.cls
    show (if ((PySem.W.clsIn K D).isSome && PySem.W.typeIn K (.ref D) == some (.type "type")) = true then PySem.W.mroIn K C (.ref D) else none) = _
    rw [if_pos (by rw [c, B.ty]; rfl), A.sub, con_c _ _ _ h]
theorem At.base {C CD : Addr} (A : At K C CD) (hD : PySem.W.isClsIn K CD = true) (tD : PySem.W.typeIn K (.ref CD) = some (.type "type")) : IsOne K C (.ref CD) true := by
  refine ⟨_, .own CD, ?_⟩
  unfold PySem.W.kitOne
  by_cases e : CD = C
  · subst e
    rw [if_pos (by simp)]
  · rw [if_neg (by simpa using fun q => e q.symm)]
    have hD : (PySem.W.clsIn K CD).isSome = true := hD
    show (if ((PySem.W.clsIn K CD).isSome && PySem.W.typeIn K (.ref CD) == some (.type "type")) = true then PySem.W.mroIn K C (.ref CD) else none) = _
    rw [if_pos (by rw [hD, tD]; rfl), A.sub, con_cd]
theorem meta_ve : PySem.W.kitMeta "ValueError" = true := by decide +kernel
theorem At.ve {C CD : Addr} (A : At K C CD) : IsOne K C (.ty "ValueError") true := by
  refine ⟨_, .ty "ValueError", ?_⟩
  unfold PySem.W.kitOne
  rw [if_neg (by simp)]
  show (if PySem.W.kitMeta "ValueError" = true then PySem.W.mroIn K C (.type "ValueError") else none) = _
  rw [if_pos meta_ve, A.sub, con_ve]
theorem At.two {C D E CD CE CF : Addr} (A : At K C CD) (B : At K D CE) (B' : At K E CF) (h : D ≠ CD) (h' : E ≠ CD) (n : D ≠ C) (n' : E ≠ C) : IsTup K C [.ref D, .ref E] false := by
  refine ⟨_, .cons (.own D) (.cons (.own E) .nil), ?_⟩
  have k1 : PySem.W.kitOne K (.ref C) (.ref D) = some false := by
    obtain ⟨u, c, e⟩ := A.one B h
    cases c
    rw [e, decide_eq_false n]
  have k2 : PySem.W.kitOne K (.ref C) (.ref E) = some false := by
    obtain ⟨u, c, e⟩ := A.one B' h'
    cases c
    rw [e, decide_eq_false n']
  unfold PySem.W.kitAny
  rw [k1]
  unfold PySem.W.kitAny
  rw [k2]
  rfl
theorem At.exm {C CD : Addr} (A : At K C CD) : PySem.W.exmOne K (.ref C) (.ref C) = some true := by
  obtain ⟨cd, c, _⟩ := A.cls
  have e1 : PySem.W.subIn K (.ref C) (.type "BaseException") = some true := (A.sub _).trans (congrArg some (con_be C CD))
  unfold PySem.W.exmOne
  rw [if_pos (by rw [e1]; rfl)]
  show (if ((PySem.W.clsIn K C).isSome && PySem.W.typeIn K (.ref C) == some (.type "type")) = true then PySem.W.mroIn K C (.ref C) else none) = _
  rw [if_pos (by rw [c, A.ty]; rfl), A.sub]
  simp

def atB (K : PySem.W.Frag) (C CD : Addr) : Bool := match K.lookup C with
  | some ⟨oc, _, .cls cd, sl⟩ => (match sl.toList with
    | [_, _, _, _, some (.builtin n), _] => decide (oc = .type "type") && (n == "ValueError.__new__" && (!cd.hasDel && (cd.hasDict && decide (cd.mro = mroS C CD))))
    | _ => false)
  | _ => false

theorem atB_ok {C CD : Addr} (q : atB K C CD = true) : At K C CD := by
  unfold atB at q
  split at q
  · rename_i oc dd cd sl ho
    split at q
    · rename_i k0 k1 k2 k3 n k5 hs
      simp only [Bool.and_eq_true, beq_iff_eq, Bool.not_eq_true', decide_eq_true_eq] at q
      obtain ⟨rfl, rfl, hdel, hdict, hm⟩ := q
      obtain ⟨nm, bs, mro, ns, qn, hd, sn, sub, ab, col, del⟩ := cd
      dsimp only at hm hdel hdict
      subst hm hdel hdict
      have e : sl = #[k0, k1, k2, k3, some (.builtin "ValueError.__new__"), k5] := by
        obtain ⟨l⟩ := sl
        have hs : l = _ := hs
        rw [hs]
      subst e
      exact ⟨⟨_, _, _, _, _, _, _, _, _, _, _, _, _, _, ho⟩⟩
    · cases q
  · cases q

def clsB (K : PySem.W.Frag) (x : PySem.Str) (fns : List PySem.Str) : Bool :=
  He.eqO (PySem.W.nsIn K mainGlobals x) (some (some (.ref (He.ga K x)))) && (atB K (He.ga K x) (He.ga K "DialError") && (He.eqO (PySem.W.findIn K (.ref (He.ga K x)) "__setattr__") (some (some (.builtin "object.__setattr__"))) &&
    (He.eqO (PySem.W.findIn K (.ref (He.ga K x)) "__getattribute__") (some (some (.builtin "BaseException.__getattribute__"))) && (He.eqO (PySem.W.findIn K (.ref (He.ga K x)) "__getattr__") (some none) &&
    (He.eqO (PySem.W.findIn K (.ref (He.ga K x)) "__class__") (some (some (.builtin "object.__class__"))) && (He.eqO (PySem.W.findIn K (.ref (He.ga K x)) "__init__") (some (some (.ref (He.ma K (He.ga K x) "__init__")))) &&
    (decide (PySem.W.typeIn K (.ref (He.ma K (He.ga K x) "__init__")) = some (.type "function")) && fns.all fun f => He.eqO (PySem.W.findIn K (.ref (He.ga K x)) f) (some none))))))))

theorem cls_of (X : K.In h) (G : h.Ns mainGlobals mg) {n q : String} {st : Stmt} {fns : List PySem.Str} (c : clsB K n fns = true) (hF : ∃ fd, FunD K "__init__" q (defArgs st) (defBody st) (defScope st) [] [] (He.ma K (He.ga K n) "__init__") fd)
    (b : ∀ (kV doc pm : Value) (an : Option Addr) (cdv ct : Value) (us : List Value), us.length = ("self" :: fns : List PySem.Str).length → bindArgs (PySem.W.fnOf "__init__" q (defArgs st) (defBody st) (defScope st) .none kV doc pm an cdv ct) ⟨us, []⟩ = pure (("self" :: fns : List PySem.Str).zip us)) :
    At K (He.ga K n) (He.ga K "DialError") ∧ ∃ fd, XCls K mg n q st fns (He.ga K n) (He.ma K (He.ga K n) "__init__") fd := by
  obtain ⟨fd, F⟩ := hF
  unfold clsB at c
  simp only [Bool.and_eq_true, decide_eq_true_eq, List.all_eq_true] at c
  obtain ⟨c1, c2, c3, c4, c5, c6, c7, c8, c9⟩ := c
  have A := atB_ok c2
  exact ⟨A, fd, A.xc (He.eqO_ok c3) (He.eqO_ok c4) (He.eqO_ok c5) (He.eqO_ok c6), PySem.W.mg_of X G (He.eqO_ok c1), He.eqO_ok c7, c8, fun_of F, (fun_of F).binds b, fun f m => He.eqO_ok (c9 f m)⟩

theorem At.stop {C CD : Addr} (A : At K C CD) : PySem.W.subIn K (.ref C) (.type "StopIteration") = some false := by
  have e : (mroS C CD).contains (.type "StopIteration") = false := by simp
  exact (A.sub _).trans (congrArg some e)
end
def faA : List He.Fa := [.glo "is_small", .glo "check_steps", .glo "check_places", .glo "rising", .glo "still_table", .glo "threshold", .glo "back_table", .glo "put_on", .glo "lesser_table", .glo "greater_table", .glo "walk_tables", .glo "is_part", .glo "told_facts", .glo "_different", .glo "_check_told", .glo "_spread", .glo "_check_tables", .glo "_check_kept"]
def faB : List He.Fa := [.glo "_law_read", .glo "_law_source", .glo "_law_draw", .glo "_law_pick", .glo "_law_size", .glo "_law_risings", .glo "_law_is_integer", .glo "_law_same_steps", .glo "_law_back_of", .glo "_law_walk_refused", .glo "_law_first_two", .glo "_law_meets", .glo "_law_back_holds", .glo "_law_thresholds_hold", .glo "_law_rises", .glo "_law_two_hold", .glo "_law_world_holds", .glo "law"]
def faC : List He.Fa := [.str "SMALL_LETTERS" smallsS, .int "MOST_WALKED" 8, .free "len", .free "all", .free "range", .free "set", .free "sorted", .free "list", .free "tuple", .free "dict", .free "zip", .free "enumerate", .free "reversed", .free "iter", .free "max", .free "min", .free "abs", .free "int", .free "isinstance", .free "list", .free "bool", .free "str", .glo "DialError"]
def faF : List He.Fa := [.cls "Facts", .noat "Facts" "_rows", .noat "Facts" "_paired", .noat "Facts" "_over", .glo "Facts", .meth "Facts" "dial_list", .meth "Facts" "__iter__", .mkr "Facts"]
def faW : List He.Fa := [.cls "World", .noat "World" "_facts", .noat "World" "_steps", .noat "World" "_places", .noat "World" "_tables", .noat "World" "_backs", .glo "World", .meth "World" "_shown", .meth "World" "table_of", .meth "World" "head_table", .mkr "World"]
def faX : List He.Fa := faA ++ (faB ++ (faC ++ (faF ++ faW)))
def fnA : List He.DefD := [⟨("is_small", none), "is_small", "is_small", defArgs s_is_small, defBody s_is_small, defScope s_is_small, [], []⟩,
  ⟨("check_steps", none), "check_steps", "check_steps", defArgs s_check_steps, defBody s_check_steps, defScope s_check_steps, [], []⟩,
  ⟨("check_places", none), "check_places", "check_places", defArgs s_checkP, defBody s_checkP, defScope s_checkP, [], []⟩,
  ⟨("rising", none), "rising", "rising", defArgs s_rising, defBody s_rising, defScope s_rising, [], []⟩,
  ⟨("still_table", none), "still_table", "still_table", defArgs s_still, defBody s_still, defScope s_still, [], []⟩,
  ⟨("threshold", none), "threshold", "threshold", defArgs s_thr, defBody s_thr, defScope s_thr, [], []⟩,
  ⟨("back_table", none), "back_table", "back_table", defArgs s_back, defBody s_back, defScope s_back, [], []⟩,
  ⟨("put_on", none), "put_on", "put_on", defArgs s_put_on, defBody s_put_on, defScope s_put_on, [], []⟩,
  ⟨("lesser_table", none), "lesser_table", "lesser_table", defArgs s_lesser, defBody s_lesser, defScope s_lesser, [], []⟩,
  ⟨("greater_table", none), "greater_table", "greater_table", defArgs s_greater, defBody s_greater, defScope s_greater, [], []⟩,
  ⟨("walk_tables", none), "walk_tables", "walk_tables", defArgs s_walk, defBody s_walk, defScope s_walk, [], []⟩,
  ⟨("is_part", none), "is_part", "is_part", defArgs s_is_part, defBody s_is_part, defScope s_is_part, [], []⟩,
  ⟨("told_facts", none), "told_facts", "told_facts", defArgs s_told, defBody s_told, defScope s_told, [], []⟩,
  ⟨("_different", none), "_different", "_different", defArgs s_diff, defBody s_diff, defScope s_diff, [], []⟩,
  ⟨("_check_told", none), "_check_told", "_check_told", defArgs s_checkT, defBody s_checkT, defScope s_checkT, [], []⟩,
  ⟨("_spread", none), "_spread", "_spread", defArgs s_spread, defBody s_spread, defScope s_spread, [], []⟩,
  ⟨("_check_tables", none), "_check_tables", "_check_tables", defArgs s_checkB, defBody s_checkB, defScope s_checkB, [], []⟩,
  ⟨("_check_kept", none), "_check_kept", "_check_kept", defArgs s_checkK, defBody s_checkK, defScope s_checkK, [], []⟩]
def fnB : List He.DefD := [⟨("_law_read", none), "_law_read", "_law_read", defArgs s_read, defBody s_read, defScope s_read, [], []⟩,
  ⟨("_law_source", none), "_law_source", "_law_source", defArgs s_source, defBody s_source, defScope s_source, [], []⟩,
  ⟨("_law_draw", none), "_law_draw", "_law_draw", defArgs s_draw, defBody s_draw, defScope s_draw, [], []⟩,
  ⟨("_law_pick", none), "_law_pick", "_law_pick", defArgs s_pick, defBody s_pick, defScope s_pick, [], []⟩,
  ⟨("_law_size", none), "_law_size", "_law_size", defArgs s_size, defBody s_size, defScope s_size, [], []⟩,
  ⟨("_law_risings", none), "_law_risings", "_law_risings", defArgs s_ris, defBody s_ris, defScope s_ris, [], []⟩,
  ⟨("_law_is_integer", none), "_law_is_integer", "_law_is_integer", defArgs s_isint, defBody s_isint, defScope s_isint, [], []⟩,
  ⟨("_law_same_steps", none), "_law_same_steps", "_law_same_steps", defArgs s_same, defBody s_same, defScope s_same, [], []⟩,
  ⟨("_law_back_of", none), "_law_back_of", "_law_back_of", defArgs s_back_of, defBody s_back_of, defScope s_back_of, [], []⟩,
  ⟨("_law_walk_refused", none), "_law_walk_refused", "_law_walk_refused", defArgs s_walk_ref, defBody s_walk_ref, defScope s_walk_ref, [], []⟩,
  ⟨("_law_first_two", none), "_law_first_two", "_law_first_two", defArgs s_first2, defBody s_first2, defScope s_first2, [], []⟩,
  ⟨("_law_meets", none), "_law_meets", "_law_meets", defArgs s_meets, defBody s_meets, defScope s_meets, [], []⟩,
  ⟨("_law_back_holds", none), "_law_back_holds", "_law_back_holds", defArgs s_bh, defBody s_bh, defScope s_bh, [], []⟩,
  ⟨("_law_thresholds_hold", none), "_law_thresholds_hold", "_law_thresholds_hold", defArgs s_th, defBody s_th, defScope s_th, [], []⟩,
  ⟨("_law_rises", none), "_law_rises", "_law_rises", defArgs s_rs, defBody s_rs, defScope s_rs, [], []⟩,
  ⟨("_law_two_hold", none), "_law_two_hold", "_law_two_hold", defArgs s_tw, defBody s_tw, defScope s_tw, [], []⟩,
  ⟨("_law_world_holds", none), "_law_world_holds", "_law_world_holds", defArgs s_wh, defBody s_wh, defScope s_wh, [], []⟩,
  ⟨("law", none), "law", "law", defArgs s_law, defBody s_law, defScope s_law, [], []⟩]
def fnC : List He.DefD := [⟨("Facts", some "__init__"), "__init__", "Facts.__init__", defArgs s_finit, defBody s_finit, defScope s_finit, [], [("paired", .str "")]⟩,
  ⟨("Facts", some "dial_list"), "dial_list", "Facts.dial_list", defArgs s_fdials, defBody s_fdials, defScope s_fdials, [], []⟩,
  ⟨("Facts", some "__iter__"), "__iter__", "Facts.__iter__", defArgs s_fiter, defBody s_fiter, defScope s_fiter, [], []⟩,
  ⟨("World", some "__init__"), "__init__", "World.__init__", defArgs s_winit, defBody s_winit, defScope s_winit, [.non], []⟩,
  ⟨("World", some "table_of"), "table_of", "World.table_of", defArgs s_table_of, defBody s_table_of, defScope s_table_of, [], []⟩,
  ⟨("World", some "_shown"), "_shown", "World._shown", defArgs s_shown, defBody s_shown, defScope s_shown, [], []⟩,
  ⟨("World", some "head_table"), "head_table", "World.head_table", defArgs s_headT, defBody s_headT, defScope s_headT, [], []⟩,
  ⟨("BadSteps", some "__init__"), "__init__", "BadSteps.__init__", defArgs c_BadSteps, defBody c_BadSteps, defScope c_BadSteps, [], []⟩,
  ⟨("NotGrounded", some "__init__"), "__init__", "NotGrounded.__init__", defArgs c_NotG, defBody c_NotG, defScope c_NotG, [], []⟩]
def fnX : List He.DefD := fnA ++ (fnB ++ fnC)
def dfP : He.DefD := ⟨("Facts", some "paired"), "paired", "Facts.paired", defArgs s_paired, defBody s_paired, defScope s_paired, [], []⟩
def dfL : He.DefD := ⟨("Facts", some "listed"), "listed", "Facts.listed", defArgs s_listed, defBody s_listed, defScope s_listed, [.str ""], []⟩
abbrev AlZ : Type := He.AlD × (He.FnW × He.FnW)
def okX (K : PySem.W.Frag) : Bool := propB K "Facts" "paired" && (statB K "Facts" "listed" && (readB K "Facts" && (conB K "Facts" "MOST" 24 && (readB K "World" && (conB K "World" "MOST" 60 && (okAt K (inA K "Facts" "paired" "property") dfP && (okAt K (inA K "Facts" "listed" "staticmethod") dfL && (clsB K "BadSteps" ["many"] && (clsB K "NotGrounded" ["dial"] && (PySem.W.isClsIn K (He.ga K "DialError") && decide (PySem.W.typeIn K (.ref (He.ga K "DialError")) = some (.type "type"))))))))))))
def obsX (K : PySem.W.Frag) : AlZ := ((okX K && (He.obsD faX fnX K).1, (He.obsD faX fnX K).2), (fnAt K (inA K "Facts" "paired" "property"), fnAt K (inA K "Facts" "listed" "staticmethod")))
def valX : AlZ := (He.valD fnX, (dfP.val, dfL.val))
structure SaysX (K : PySem.W.Frag) : Prop where
  ok : okX K = true
  says : He.SaysD faX fnX K
  p : fnAt K (inA K "Facts" "paired" "property") = dfP.val
  l : fnAt K (inA K "Facts" "listed" "staticmethod") = dfL.val
theorem says_of {K : PySem.W.Frag} (e : obsX K = valX) : SaysX K := by
  have e1 : (okX K && (He.obsD faX fnX K).1) = true := congrArg (fun z : AlZ => z.1.1) e
  have e2 : (He.obsD faX fnX K).2 = (He.valD fnX).2 := congrArg (fun z : AlZ => z.1.2) e
  rw [Bool.and_eq_true] at e1
  exact ⟨e1.1, Prod.ext e1.2 e2, congrArg (fun z : AlZ => z.2.1) e, congrArg (fun z : AlZ => z.2.2) e⟩
def hookX (as : List Addr) : PySem.W.Hook where
  α := AlZ
  obs := fun s => obsX (He.frG s.heap.get? as)
  val := fun _ => valX
  says := fun _ h => ∃ K : PySem.W.Frag, K.In h ∧ SaysX K
  of := fun _ _ e => ⟨_, He.frG_in, says_of e⟩
  keeps := fun _ _ _ ⟨K, hK, c⟩ k => ⟨K, PySem.W.Frag.In.keeps hK k, c⟩
def obX (as : List Addr) (s : PySem.W.SharedT) : AlZ := obsX (He.frG (HandSHeadRun.getT s) as)
theorem obX_eq (as : List Addr) (s : PySem.W.SharedT) : obX as s = (hookX as).obs s.abs := by
  have e : HandSHeadRun.getT s = s.abs.heap.get? := funext fun a => HandSHeadRun.getT_eq s a
  show obsX (He.frG (HandSHeadRun.getT s) as) = obsX (He.frG s.abs.heap.get? as)
  rw [e]
theorem law_binds {kV doc pm cdv ct : Value} {an : Option Addr} (s : Shared) (u : Value) : BindsTo s (PySem.W.fnOf "law" "law" (defArgs s_law) (defBody s_law) (defScope s_law) .none kV doc pm an cdv ct) ⟨[u], []⟩ [("_law_script", u)] := .of_eq rfl
theorem walk_ofW {l : PySem.W.OpenLaw} {n k : Nat} {q : Program} {loose : List PySem.Str} {XP : (PySem.Str → Option Value) → Heap → Prop} {YP : World → Heap → Prop} {d : DefRec} {CX : World → CXT} {x : PySem.Str}
    (h1 : l.most = some n) (h2 : n ≤ sizeLine) (h3 : d.params.defaults = []) (h4 : Room k callerA)
    (F : ∀ (w : World) (mg : PySem.Str → Option Value) (fa : Addr) (h : Heap), YP w h → h.Ns mainGlobals mg → mg d.name = some (.ref fa) →
      ∃ (K : PySem.W.Frag) (fd : FuncData) (sp : Sp), K.In h ∧ (∀ (s : Shared) (u : Value), BindsTo s fd ⟨[u], []⟩ [(x, u)]) ∧
        (∀ (H : Hp) (a : Addr) (ns : List Int), ns.length ≤ n → Only H → SqL K H a (ns.map V.int) → sp [.ref a] H (fun v _ => v = .bl true) fun _ _ _ => False) ∧
        ∀ base : Heap, K.In base → base.Ns mainGlobals mg → FnOk l.prog w K mg base (CX w) k fa fd [x] sp)
    (h5 : ∀ (w : World) (H : Hp) (s : Shared) (e : Value) (s' : Shared), CX w [] H s (fun _ _ _ => False) e s' → False) :
    PySem.W.WalkO q loose XP YP l.row.toRowW d [] (fun f vs => PySem.call f vs) := by
  refine Att.attach_call h1 h3 fun w sA sB mg mb fa ob pm cv dc ad vs zs gr yy r1 r2 r3 r4 r5 r6 r7 r8 => ?_
  obtain ⟨K, fd, sp, c1, c2, c3, c4⟩ := F w mg fa _ yy gr.T.g r4
  exact law_call c1 gr.T.g gr.T.b gr.T.builtins gr.T.nolimit r8 r5 r6 (Nat.le_trans r7 h2) h4 c4 c2 (fun H hO hS => c3 H ad zs r7 hO hS) fun H e s' => h5 w H sB e s'
theorem facts {P : Program} {w : World} {K : PySem.W.Frag} {h : Heap} {mg : PySem.Str → Option Value} {f : Addr} (X : K.In h) (G : h.Ns mainGlobals mg) (hfa : mg ("law" : PySem.Str) = some (.ref f)) (c : SaysX K) :
    ∃ fd : FuncData, (∀ (s : Shared) (u : Value), BindsTo s fd ⟨[u], []⟩ [("_law_script", u)]) ∧ ∀ base : Heap, K.In base → base.Ns mainGlobals mg → FnOk P w K mg base (L2.CX P w) 9 f fd ["_law_script"] (spLaw K) := by
  have o1 := c.ok
  unfold okX at o1
  simp only [Bool.and_eq_true, decide_eq_true_eq] at o1
  obtain ⟨cp, cl, cr, cm, cR, cM, ap, al, xs, xg, kd, kt⟩ := o1
  obtain ⟨tF, vF⟩ := conB_ok cm
  obtain ⟨tW, vW⟩ := conB_ok cM
  obtain ⟨d0, D0⟩ := dat_of (mg := mg) (n := "is_small") (st := s_is_small) (ps := ["text"]) X G (c.says.fact 0 rfl) (c.says.def_ 0 rfl) fun _ _ _ _ _ _ us hl => match us, hl with | [_], _ => rfl
  obtain ⟨d1, D1⟩ := dat_of (mg := mg) (n := "check_steps") (st := s_check_steps) (ps := ["many", "most"]) X G (c.says.fact 1 rfl) (c.says.def_ 1 rfl) fun _ _ _ _ _ _ us hl => match us, hl with | [_, _], _ => rfl
  obtain ⟨d2, D2⟩ := dat_of (mg := mg) (n := "check_places") (st := s_checkP) (ps := ["places", "steps"]) X G (c.says.fact 2 rfl) (c.says.def_ 2 rfl) fun _ _ _ _ _ _ us hl => match us, hl with | [_, _], _ => rfl
  obtain ⟨d3, D3⟩ := dat_of (mg := mg) (n := "rising") (st := s_rising) (ps := ["table"]) X G (c.says.fact 3 rfl) (c.says.def_ 3 rfl) fun _ _ _ _ _ _ us hl => match us, hl with | [_], _ => rfl
  obtain ⟨d4, D4⟩ := dat_of (mg := mg) (n := "still_table") (st := s_still) (ps := ["steps"]) X G (c.says.fact 4 rfl) (c.says.def_ 4 rfl) fun _ _ _ _ _ _ us hl => match us, hl with | [_], _ => rfl
  obtain ⟨d5, D5⟩ := dat_of (mg := mg) (n := "threshold") (st := s_thr) (ps := ["table", "least"]) X G (c.says.fact 5 rfl) (c.says.def_ 5 rfl) fun _ _ _ _ _ _ us hl => match us, hl with | [_, _], _ => rfl
  obtain ⟨d6, D6⟩ := dat_of (mg := mg) (n := "back_table") (st := s_back) (ps := ["table"]) X G (c.says.fact 6 rfl) (c.says.def_ 6 rfl) fun _ _ _ _ _ _ us hl => match us, hl with | [_], _ => rfl
  obtain ⟨d7, D7⟩ := dat_of (mg := mg) (n := "put_on") (st := s_put_on) (ps := ["outer", "inner"]) X G (c.says.fact 7 rfl) (c.says.def_ 7 rfl) fun _ _ _ _ _ _ us hl => match us, hl with | [_, _], _ => rfl
  obtain ⟨d8, D8⟩ := dat_of (mg := mg) (n := "lesser_table") (st := s_lesser) (ps := ["one", "other"]) X G (c.says.fact 8 rfl) (c.says.def_ 8 rfl) fun _ _ _ _ _ _ us hl => match us, hl with | [_, _], _ => rfl
  obtain ⟨d9, D9⟩ := dat_of (mg := mg) (n := "greater_table") (st := s_greater) (ps := ["one", "other"]) X G (c.says.fact 9 rfl) (c.says.def_ 9 rfl) fun _ _ _ _ _ _ us hl => match us, hl with | [_, _], _ => rfl
  obtain ⟨d10, D10⟩ := dat_of (mg := mg) (n := "walk_tables") (st := s_walk) (ps := ["steps"]) X G (c.says.fact 10 rfl) (c.says.def_ 10 rfl) fun _ _ _ _ _ _ us hl => match us, hl with | [_], _ => rfl
  obtain ⟨d11, D11⟩ := dat_of (mg := mg) (n := "is_part") (st := s_is_part) (ps := ["text"]) X G (c.says.fact 11 rfl) (c.says.def_ 11 rfl) fun _ _ _ _ _ _ us hl => match us, hl with | [_], _ => rfl
  obtain ⟨d12, D12⟩ := dat_of (mg := mg) (n := "told_facts") (st := s_told) (ps := ["facts"]) X G (c.says.fact 12 rfl) (c.says.def_ 12 rfl) fun _ _ _ _ _ _ us hl => match us, hl with | [_], _ => rfl
  obtain ⟨d13, D13⟩ := dat_of (mg := mg) (n := "_different") (st := s_diff) (ps := ["pairs"]) X G (c.says.fact 13 rfl) (c.says.def_ 13 rfl) fun _ _ _ _ _ _ us hl => match us, hl with | [_], _ => rfl
  obtain ⟨d14, D14⟩ := dat_of (mg := mg) (n := "_check_told") (st := s_checkT) (ps := ["pairs", "paired", "most"]) X G (c.says.fact 14 rfl) (c.says.def_ 14 rfl) fun _ _ _ _ _ _ us hl => match us, hl with | [_, _, _], _ => rfl
  obtain ⟨d15, D15⟩ := dat_of (mg := mg) (n := "_spread") (st := s_spread) (ps := ["low", "rows"]) X G (c.says.fact 15 rfl) (c.says.def_ 15 rfl) fun _ _ _ _ _ _ us hl => match us, hl with | [_, _], _ => rfl
  obtain ⟨d16, D16⟩ := dat_of (mg := mg) (n := "_check_tables") (st := s_checkB) (ps := ["tables", "steps"]) X G (c.says.fact 16 rfl) (c.says.def_ 16 rfl) fun _ _ _ _ _ _ us hl => match us, hl with | [_, _], _ => rfl
  obtain ⟨d17, D17⟩ := dat_of (mg := mg) (n := "_check_kept") (st := s_checkK) (ps := ["tables", "steps", "facts"]) X G (c.says.fact 17 rfl) (c.says.def_ 17 rfl) fun _ _ _ _ _ _ us hl => match us, hl with | [_, _, _], _ => rfl
  obtain ⟨d18, D18⟩ := dat_of (mg := mg) (n := "_law_read") (st := s_read) (ps := ["_law_script", "_law_k"]) X G (c.says.fact 18 rfl) (c.says.def_ 18 rfl) fun _ _ _ _ _ _ us hl => match us, hl with | [_, _], _ => rfl
  obtain ⟨d19, D19⟩ := dat_of (mg := mg) (n := "_law_source") (st := s_source) (ps := ["_law_script", "_law_k"]) X G (c.says.fact 19 rfl) (c.says.def_ 19 rfl) fun _ _ _ _ _ _ us hl => match us, hl with | [_, _], _ => rfl
  obtain ⟨d20, D20⟩ := dat_of (mg := mg) (n := "_law_draw") (st := s_draw) (ps := ["_law_source_here", "_law_many"]) X G (c.says.fact 20 rfl) (c.says.def_ 20 rfl) fun _ _ _ _ _ _ us hl => match us, hl with | [_, _], _ => rfl
  obtain ⟨d21, D21⟩ := dat_of (mg := mg) (n := "_law_pick") (st := s_pick) (ps := ["_law_source_here", "_law_pool", "_law_many"]) X G (c.says.fact 21 rfl) (c.says.def_ 21 rfl) fun _ _ _ _ _ _ us hl => match us, hl with | [_, _, _], _ => rfl
  obtain ⟨d22, D22⟩ := dat_of (mg := mg) (n := "_law_size") (st := s_size) (ps := ["_law_source_here", "_law_usual", "_law_most"]) X G (c.says.fact 22 rfl) (c.says.def_ 22 rfl) fun _ _ _ _ _ _ us hl => match us, hl with | [_, _, _], _ => rfl
  obtain ⟨d23, D23⟩ := dat_of (mg := mg) (n := "_law_risings") (st := s_ris) (ps := ["_law_size_here"]) X G (c.says.fact 23 rfl) (c.says.def_ 23 rfl) fun _ _ _ _ _ _ us hl => match us, hl with | [_], _ => rfl
  obtain ⟨d24, D24⟩ := dat_of (mg := mg) (n := "_law_is_integer") (st := s_isint) (ps := ["_law_actual"]) X G (c.says.fact 24 rfl) (c.says.def_ 24 rfl) fun _ _ _ _ _ _ us hl => match us, hl with | [_], _ => rfl
  obtain ⟨d25, D25⟩ := dat_of (mg := mg) (n := "_law_same_steps") (st := s_same) (ps := ["_law_actual", "_law_due"]) X G (c.says.fact 25 rfl) (c.says.def_ 25 rfl) fun _ _ _ _ _ _ us hl => match us, hl with | [_, _], _ => rfl
  obtain ⟨d26, D26⟩ := dat_of (mg := mg) (n := "_law_back_of") (st := s_back_of) (ps := ["_law_table"]) X G (c.says.fact 26 rfl) (c.says.def_ 26 rfl) fun _ _ _ _ _ _ us hl => match us, hl with | [_], _ => rfl
  obtain ⟨d27, D27⟩ := dat_of (mg := mg) (n := "_law_walk_refused") (st := s_walk_ref) (ps := ["_law_steps"]) X G (c.says.fact 27 rfl) (c.says.def_ 27 rfl) fun _ _ _ _ _ _ us hl => match us, hl with | [_], _ => rfl
  obtain ⟨d28, D28⟩ := dat_of (mg := mg) (n := "_law_first_two") (st := s_first2) (ps := ["_law_steps"]) X G (c.says.fact 28 rfl) (c.says.def_ 28 rfl) fun _ _ _ _ _ _ us hl => match us, hl with | [_], _ => rfl
  obtain ⟨d29, D29⟩ := dat_of (mg := mg) (n := "_law_meets") (st := s_meets) (ps := ["_law_table", "_law_back"]) X G (c.says.fact 29 rfl) (c.says.def_ 29 rfl) fun _ _ _ _ _ _ us hl => match us, hl with | [_, _], _ => rfl
  obtain ⟨d30, D30⟩ := dat_of (mg := mg) (n := "_law_back_holds") (st := s_bh) (ps := ["_law_table"]) X G (c.says.fact 30 rfl) (c.says.def_ 30 rfl) fun _ _ _ _ _ _ us hl => match us, hl with | [_], _ => rfl
  obtain ⟨d31, D31⟩ := dat_of (mg := mg) (n := "_law_thresholds_hold") (st := s_th) (ps := ["_law_table"]) X G (c.says.fact 31 rfl) (c.says.def_ 31 rfl) fun _ _ _ _ _ _ us hl => match us, hl with | [_], _ => rfl
  obtain ⟨d32, D32⟩ := dat_of (mg := mg) (n := "_law_rises") (st := s_rs) (ps := ["_law_numbers"]) X G (c.says.fact 32 rfl) (c.says.def_ 32 rfl) fun _ _ _ _ _ _ us hl => match us, hl with | [_], _ => rfl
  obtain ⟨d33, D33⟩ := dat_of (mg := mg) (n := "_law_two_hold") (st := s_tw) (ps := ["_law_one", "_law_other"]) X G (c.says.fact 33 rfl) (c.says.def_ 33 rfl) fun _ _ _ _ _ _ us hl => match us, hl with | [_, _], _ => rfl
  obtain ⟨d34, D34⟩ := dat_of (mg := mg) (n := "_law_world_holds") (st := s_wh) (ps := ["_law_source_here", "_law_one", "_law_other"]) X G (c.says.fact 34 rfl) (c.says.def_ 34 rfl) fun _ _ _ _ _ _ us hl => match us, hl with | [_, _, _], _ => rfl
  obtain ⟨d35, D35⟩ := dat_of (mg := mg) (n := "law") (st := s_law) (ps := ["_law_script"]) X G (c.says.fact 35 rfl) (c.says.def_ 35 rfl) fun _ _ _ _ _ _ us hl => match us, hl with | [_], _ => rfl
  have W : Wd mg := ⟨He.str_ok X G (c.says.fact 36 rfl), He.int_ok X G (c.says.fact 37 rfl), He.free_ok X G (c.says.fact 38 rfl), He.free_ok X G (c.says.fact 39 rfl), He.free_ok X G (c.says.fact 40 rfl), He.free_ok X G (c.says.fact 41 rfl), He.free_ok X G (c.says.fact 42 rfl), He.free_ok X G (c.says.fact 43 rfl), He.free_ok X G (c.says.fact 44 rfl), He.free_ok X G (c.says.fact 45 rfl), He.free_ok X G (c.says.fact 46 rfl), He.free_ok X G (c.says.fact 47 rfl), He.free_ok X G (c.says.fact 48 rfl), He.free_ok X G (c.says.fact 49 rfl), He.free_ok X G (c.says.fact 50 rfl), He.free_ok X G (c.says.fact 51 rfl)⟩
  have L : Lb mg := ⟨He.free_ok X G (c.says.fact 52 rfl), He.free_ok X G (c.says.fact 53 rfl), He.free_ok X G (c.says.fact 54 rfl), He.free_ok X G (c.says.fact 55 rfl), He.free_ok X G (c.says.fact 56 rfl)⟩
  have str := He.free_ok X G (c.says.fact 57 rfl)
  have gD : mg "DialError" = some (.ref (He.ga K "DialError")) := He.glo_ok X G (c.says.fact 58 rfl)
  have FC : FCls K mg (cA K "Facts") := ⟨He.cls_ok (c.says.fact 59 rfl), He.noat_ok (c.says.fact 60 rfl), He.noat_ok (c.says.fact 61 rfl), He.noat_ok (c.says.fact 62 rfl), He.glo_ok X G (c.says.fact 63 rfl), mcT, tF, readB_ok cr, vF⟩
  have mD := He.meth_ok (c.says.fact 64 rfl)
  have mI := He.meth_ok (c.says.fact 65 rfl)
  have kF := He.mkr_ok (c.says.fact 66 rfl)
  have WC : WCls K mg (cA K "World") := ⟨He.cls_ok (c.says.fact 67 rfl), He.noat_ok (c.says.fact 68 rfl), He.noat_ok (c.says.fact 69 rfl), He.noat_ok (c.says.fact 70 rfl), He.noat_ok (c.says.fact 71 rfl), He.noat_ok (c.says.fact 72 rfl), He.glo_ok X G (c.says.fact 73 rfl), mcT, tW, readB_ok cR, vW⟩
  have mS := He.meth_ok (c.says.fact 74 rfl)
  have mT := He.meth_ok (c.says.fact 75 rfl)
  have mH := He.meth_ok (c.says.fact 76 rfl)
  have kW := He.mkr_ok (c.says.fact 77 rfl)
  obtain ⟨dI, EI⟩ := c.says.def_ 36 rfl
  obtain ⟨dD, ED⟩ := datm_of (n := "dial_list") (q := "Facts.dial_list") (st := s_fdials) (ps := ["self"]) (c.says.def_ 37 rfl) fun _ _ _ _ _ _ us hl => match us, hl with | [_], _ => rfl
  obtain ⟨dt, Et⟩ := datm_of (n := "__iter__") (q := "Facts.__iter__") (st := s_fiter) (ps := ["self"]) (c.says.def_ 38 rfl) fun _ _ _ _ _ _ us hl => match us, hl with | [_], _ => rfl
  obtain ⟨dW, EW⟩ := datd_of (n := "__init__") (q := "World.__init__") (st := s_winit) (ps := pWI) (v := .non) (c.says.def_ 39 rfl) fun _ _ _ _ _ _ _ us _ hl => match us, hl with | [_, _, _, _, _], _ => ⟨_, rfl, rfl⟩
  obtain ⟨dT, ET⟩ := datm_of (n := "table_of") (q := "World.table_of") (st := s_table_of) (ps := ["self", "letter"]) (c.says.def_ 40 rfl) fun _ _ _ _ _ _ us hl => match us, hl with | [_, _], _ => rfl
  obtain ⟨dS, ES⟩ := datm_of (n := "_shown") (q := "World._shown") (st := s_shown) (ps := ["self", "letter"]) (c.says.def_ 41 rfl) fun _ _ _ _ _ _ us hl => match us, hl with | [_, _], _ => rfl
  obtain ⟨dH, EH⟩ := datm_of (n := "head_table") (q := "World.head_table") (st := s_headT) (ps := ["self", "head"]) (c.says.def_ 42 rfl) fun _ _ _ _ _ _ us hl => match us, hl with | [_, _], _ => rfl
  obtain ⟨dP, EP⟩ := datm_of (n := "paired") (q := "Facts.paired") (st := s_paired) (ps := ["self"]) (fnAt_ok c.p ap) fun _ _ _ _ _ _ us hl => match us, hl with | [_], _ => rfl
  obtain ⟨dL, EL⟩ := datd_of (n := "listed") (q := "Facts.listed") (st := s_listed) (ps := ["pairs", "paired"]) (v := .str "") (fnAt_ok c.l al) fun _ _ _ _ _ _ _ us _ hl => match us, hl with | [_, _], _ => ⟨_, rfl, rfl⟩
  obtain ⟨AS, dXS, XS⟩ := cls_of (mg := mg) (n := "BadSteps") (q := "BadSteps.__init__") (st := c_BadSteps) (fns := ["many"]) X G xs (c.says.def_ 43 rfl) fun _ _ _ _ _ _ us hl => match us, hl with | [_, _], _ => rfl
  obtain ⟨AG, dXG, XG⟩ := cls_of (mg := mg) (n := "NotGrounded") (q := "NotGrounded.__init__") (st := c_NotG) (fns := ["dial"]) X G xg (c.says.def_ 44 rfl) fun _ _ _ _ _ _ us hl => match us, hl with | [_, _], _ => rfl
  have N : Kn K mg (He.ga K "BadSteps") (He.ga K "NotGrounded") (He.ga K "DialError") := ⟨gD, AS.exm, AG.exm, AS.base kd kt, AG.base kd kt, AS.stop⟩
  cases hfa.symm.trans D35.g
  refine ⟨d35, ?_, fun base _ _ => all_law W L str XS XG N FC WC ⟨mD, propB_ok cp, mI.at_, mI.fn⟩ kF kW mS mT mH (readB_ok cr) (statB_ok cl) EI EL EP ED Et EW ET ES EH D0 D1 D2 D3 D4 D5 D6 D7 D8 D9 D10 D11 D12 D13 D14 D15 D16 D17 D18 D19 D20 D21 D22 D23 D24 D25 D26 D27 D28 D29 D30 D31 D32 D33 D34 D35⟩
  obtain ⟨⟨oc, od, kV, doc, pm, an, cdv, ct, osl, rfl, _, _⟩, _⟩ := D35.F
  exact law_binds
end Z
end
/-! Y29 -/
set_option linter.all false
set_option maxRecDepth 100000
set_option maxHeartbeats 4000000
noncomputable section
namespace Z
open PySem PySem.Spec PyProof.Rows L2 PySem.Froz Evl TS GenW

def loose0 : List PySem.Str := ["_wall", "DialError", "BadWord", "BadLetter", "BadFact", "MixedFact", "BadSteps", "BadPlace", "BadTable", "BrokenFact", "NotGrounded", "NoPlace", "NoTable", "Unlike", "TooLarge", "SMALL_LETTERS", "CAPITAL_LETTERS", "POINT_LETTERS"]
def loose1 : List PySem.Str := ["MOST_LETTERS", "is_small", "is_capital", "is_point", "is_dial_letter", "is_head", "is_word", "check_steps", "check_places", "MOST_WALKED", "rising", "still_table", "threshold", "back_table", "put_on", "lesser_table", "greater_table", "walk_tables"]
def loose2 : List PySem.Str := ["is_part", "told_facts", "_different", "_check_told", "_spread", "Facts", "_check_tables", "_check_kept", "_check_like", "place_dict", "table_dict", "World", "_law_read", "_law_source", "_law_draw", "_law_pick", "_law_size", "_law_risings"]
def loose3 : List PySem.Str := ["_law_is_integer", "_law_same_steps", "_law_back_of", "_law_walk_refused", "_law_first_two", "_law_meets", "_law_back_holds", "_law_thresholds_hold", "_law_rises", "_law_two_hold", "_law_world_holds"]
def looseX : List PySem.Str := loose0 ++ loose1 ++ loose2 ++ loose3
def ad0 : List Addr := [3, 288, 328, 335, 340, 347, 354, 359, 364, 369, 374, 379, 386, 393, 400, 407, 414, 540, 547, 696, 703, 710, 717, 724, 731, 738, 745, 752, 759, 766]
def ad1 : List Addr := [773, 778, 783, 790, 795, 800, 805, 31, 529, 685, 127, 203, 427, 437, 446, 472, 519, 577, 632, 639, 644, 124, 200, 445, 435, 30, 528, 684, 126, 202]
def ad2 : List Addr := [287, 327, 334, 339, 346, 353, 358, 363, 368, 373, 378, 385, 392, 399, 406, 413, 539, 546, 695, 702, 709, 716, 723, 730, 737, 744, 751, 758, 765, 772]
def ad3 : List Addr := [777, 782, 789, 794, 799, 804, 426, 422, 471, 518, 576, 572, 631, 638, 643, 123, 199, 444, 434, 428, 2]
def adX : List Addr := ad0 ++ ad1 ++ ad2 ++ ad3
abbrev RX : PySem.W.OpenRow := PySem.W.OpenLaw.row PySem.Challenge.rw_unseendials_k08_back_tables
end Z
end
/-! Y30 -/
set_option linter.all false
set_option maxRecDepth 100000
set_option maxHeartbeats 0
namespace Z
open PySem PySem.Spec PyProof.Rows L2
theorem runX (w : World) : HandSHeadRun.RunEq RX (PySem.W.view RX.prog [72]) (hookX adX) (obX adX) 12000 looseX w := by
  intro os
  kernel_rfl
end Z
open PySem PySem.W PySem.Calls PyProof.Rows
theorem PySem.Challenge.cw_unseendials_k08_back_tables_holds : PySem.Challenge.rw_unseendials_k08_back_tables.Holds := by
  w_on; o_law
  refine HandSHeadRun.head_any (r := Z.RX) (q := view Z.RX.prog [72]) (H := Z.hookX Z.adX) (ob := Z.obX Z.adX) (M := 12000) (loose := Z.looseX) (d := HandSHeadRun.topDef Z.RX.prog 72) (kwd := []) (Z.obX_eq Z.adX)
    (by kernel_rfl) (fun s => by kernel_rfl) Z.runX (by kernel_rfl) (by kernel_rfl) (by kernel_rfl) (by rfl) (by first | assumption | decide +kernel) (by decide +kernel) ⟨rfl, rfl, rfl, rfl, rfl, by decide +kernel⟩ ?hw ?hc
  case hw => w_witness2
  case hc =>
    refine Z.walk_ofW (l := PySem.Challenge.rw_unseendials_k08_back_tables) (n := 63) (k := 9) (x := "_law_script") (CX := fun w => L2.CX PySem.Challenge.rw_unseendials_k08_back_tables.prog w) rfl (by decide) (by kernel_rfl) ⟨rfl, by decide, by decide⟩ ?F (fun _ _ _ _ _ ⟨_, _, _, _, _, _, _, _, _, _, _, _, z⟩ => z)
    intro w mg fa h Y G hmg0
    obtain ⟨K, KX, c⟩ := Y
    have hmg : mg ("law" : PySem.Str) = some (.ref fa) := by
      have e : (HandSHeadRun.topDef Z.RX.prog 72).name = ("law" : PySem.Str) := by kernel_rfl
      rw [← e]
      exact hmg0
    obtain ⟨fd, hb, hF⟩ := Z.facts (P := PySem.Challenge.rw_unseendials_k08_back_tables.prog) (w := w) KX G hmg c
    exact ⟨K, fd, Z.spLaw K, KX, hb, fun H a ns hl _ hS => ⟨a, ns, rfl, hS, hl, fun _ _ => rfl⟩, hF⟩
