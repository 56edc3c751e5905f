import PyProof.Rows.All
import Wide.All
import OpenK.AllK
import Wide.FinOn
import HandS.ForMost
import KE.GoesMore
import PyProof.ListNew
import HandS.Zip
import HandS.More
import KE.KDictCopyH
import HandS.Conv
import HandS.ListItems
import HandS.ForExc
import HandS.ExcInit
import HandS.FStr
import KE.KExcSuper
import KE.KSuper
import KE.KExcMake
import HandS.Gcd
import HandS.IsInst
import HandS.Wide
import HandS.Style
import HandS.Rev
import HandS.Flow
import HandS.Defaults
import HandS.Star
import PyProof.ReprRoads
import HandS.TupAny
import KE.LtSeq
import HandS.HeadWalk
import HandS.ExcField
import HandS.WideBits
import HandS.Codes
import HandS.EndBits
import PyProof.ReprLen
import PyProof.P3Eq
import KE.RegKSuper
import PySem.Challenge.RW_chance_k21_steps_down
set_option Elab.async false
set_option linter.all false
set_option maxRecDepth 100000
set_option maxHeartbeats 4000000
/-! zip, walked by list(..): the tuple that it owns is kept by the list, so the next ones are made anew -/
namespace ZP
open PySem
open PySem.Sem (wp)
abbrev IsZipB (h : Heap) (z TI TO : Addr) (f0 f1 : Value) : Prop :=
  h.get? z = some { cls := .type "zip", dict := none, data := .fields #[f0, f1, .bool false, .ref TI, .ref TO], slots := #[] }
theorem no_len : typeLookup (.type "zip") "__len__" = pure none := by rw [typeLookup_type, builtinLookup_eq_fast]; kernel_rfl
theorem no_hint : typeLookup (.type "zip") "__length_hint__" = pure none := by rw [typeLookup_type, builtinLookup_eq_fast]; kernel_rfl
section
variable {prog : Program} {w : World} {A : Around} {E : Value → Shared → Prop} {s : Shared} {z TI TO i1 i2 T0 : Addr} {fp1 fp2 : List Addr} {n1 n2 i : Nat} {P1 P2 : Nat → Value → Prop} {St1 St2 : Nat → Heap → Prop} {f1 : Value}
theorem alive {M : Model} {a : Addr} {Q : Option Obj → Shared → Prop} (h : Q (s.heap.get? a) s) : wpAny M A (loadIfAlive a) Q E s := fun Γ p _ => by
  unfold loadIfAlive
  rw [Sem.wp_loadIfAlive]
  exact h
theorem busy {o : Obj} {Q : Bool → Shared → Prop} (hz : IsZipB s.heap z TI TO (rawInt T0) f1) (hf : f1 = .bool false ∨ f1 = .bool true) (hT : s.heap.get? T0 = some o)
    (hQ : ∀ h', IsZipB h' z TI TO (rawInt T0) (.bool true) → Heap.SameBut z s.heap h' → Q false { s with heap := h' }) :
    wpAny (model prog w) A (Builtin.SmallTypes.ownedTupleIsFree (.ref z)) Q E s := by
  unfold Builtin.SmallTypes.ownedTupleIsFree
  refine wpAny_bind (wpAny_field hz rfl (x := rawInt T0) rfl ?_)
  show wpAny _ _ (loadIfAlive (Int.toNat (T0 : Int)) >>= _) _ _ s
  rw [Int.toNat_natCast]
  refine wpAny_bind (alive ?_)
  rw [hT]
  simp only [Option.isNone_some, Bool.false_eq_true, if_false]
  refine wpAny_bind (wpAny_field hz rfl (x := f1) rfl ?_)
  rcases hf with rfl | rfl
  · rw [if_pos (by decide)]
    exact wpAny_bind (wpAny_setField_rec hz (by simp) fun h' hz' hs' => wpAny_pure (hQ h' hz' hs'))
  · rw [if_neg (by decide)]
    exact wpAny_pure (hQ s.heap hz ⟨rfl, fun _ _ => rfl⟩)
theorem busy_item {Q : Value → Shared → Prop} {o : Obj} (hzi1 : z ≠ i1) (hzi2 : z ≠ i2) (hTz : TI ≠ z) (hT1 : TI ≠ i1) (hT2 : TI ≠ i2) (zf1 : z ∉ fp1) (zf2 : z ∉ fp2) (sep1 : i1 ∉ fp2) (sep2 : i2 ∉ fp1)
    (D1 : Draws prog w A i1 fp1 n1 P1 St1) (D2 : Draws prog w A i2 fp2 n2 P2 St2)
    (hz : IsZipB s.heap z TI TO (rawInt T0) f1) (hf : f1 = .bool false ∨ f1 = .bool true) (hT : s.heap.get? T0 = some o) (hTI : IsTupOf2 s.heap TI (.ref i1) (.ref i2)) (st1 : St1 i s.heap) (st2 : St2 i s.heap) (hlt1 : i < n1) (hlt2 : i < n2)
    (hQ : ∀ x1 x2 h' tk, P1 i x1 → P2 i x2 → IsZipB h' z TI TO (rawInt T0) (.bool true) → IsTupOf2 h' TI (.ref i1) (.ref i2) → St1 (i + 1) h' → St2 (i + 1) h' → IsTupOf2 h' s.heap.objs.size x1 x2 → h'.objs.size = s.heap.objs.size + 1 →
      (∀ c o, c ≠ z → c ≠ i1 → c ≠ i2 → s.heap.get? c = some o → h'.get? c = some o) → Q (.ref s.heap.objs.size) { s with heap := h', toks := tk }) :
    wpAny (model prog w) A (Builtin.«zip.__next__» ⟨[.ref z], []⟩) (fun fin s' => ∃ v, fin = .done (.ret v) ∧ Q v s') E s := by
  obtain ⟨hp, g, d, tk0, os⟩ := s
  show wpAny _ _ (field (.ref z) 2 >>= _) _ _ _
  refine wpAny_bind (wpAny_field hz rfl (x := .bool false) rfl ?_)
  show wpAny _ _ (field (.ref z) 3 >>= _) _ _ _
  refine wpAny_bind (wpAny_field hz rfl (x := .ref TI) rfl ?_)
  refine wpAny_bind (wpAny_seqItems hTI rfl ?_)
  show wpAny _ _ (Builtin.SmallTypes.ownedTupleIsFree (.ref z) >>= _) _ _ _
  refine wpAny_bind (busy hz hf hT fun g0 hz0 hs0 => ?_)
  replace hz0 : IsZipB g0 z TI TO (rawInt T0) (.bool true) := hz0
  replace hs0 : Heap.SameBut z hp g0 := hs0
  simp only [Bool.false_eq_true, if_false]
  refine wpAny_bind ?_
  simp only [List.forIn_toArray, ← Array.forIn_toList, List.forIn_cons, List.forIn_nil]
  refine wpAny_bind (wpAny_bind (wpAny_holding ?_))
  show wpAny _ _ (Builtin.SmallTypes.nextOf (.ref i1) >>= _) _ _ ⟨g0, g, d, tk0, os⟩
  refine wpAny_bind (D1.item i _ _ _ hlt1 (D1.over st1 hs0 zf1) fun x1 p1 tk1 hx1 sn1 hp1 => wpAny_pure ?_)
  replace hp1 : Heap.SameBut i1 g0 p1 := hp1
  refine wpAny_pure ?_
  refine wpAny_bind (wpAny_bind (wpAny_holding ?_))
  show wpAny _ _ (Builtin.SmallTypes.nextOf (.ref i2) >>= _) _ _ ⟨p1, g, d, tk1, os⟩
  refine wpAny_bind (D2.item i _ _ _ hlt2 (D2.over (D2.over st2 hs0 zf2) hp1 sep1) fun x2 p2 tk2 hx2 sn2 hp2 => wpAny_pure ?_)
  replace hp2 : Heap.SameBut i2 p1 p2 := hp2
  refine wpAny_pure (wpAny_pure ?_)
  refine wpAny_bind (wpAny_newTuple ?_ (by show 2 ≤ sizeLine; decide))
  have hsz : p2.objs.size = hp.objs.size := by rw [hp2.1, hp1.1, hs0.1]
  have kk : ∀ c o, c ≠ z → c ≠ i1 → c ≠ i2 → hp.get? c = some o → p2.get? c = some o := fun c o cz c1 c2 e => hp2.extBut _ _ c2 (hp1.extBut _ _ c1 (hs0.extBut _ _ cz e))
  have hzz : IsZipB p2 z TI TO (rawInt T0) (.bool true) := hp2.extBut _ _ hzi2 (hp1.extBut _ _ hzi1 hz0)
  have hTI2 : IsTupOf2 p2 TI (.ref i1) (.ref i2) := kk _ _ hTz hT1 hT2 hTI
  have sn1' : St1 (i + 1) p2 := D1.over sn1 hp2 sep2
  refine wpAny_pure ⟨_, rfl, ?_⟩
  show Q (.ref p2.objs.size) _
  have hT' : IsTupOf2 (p2.push { cls := .type "tuple", data := .seq #[x1, x2] }) p2.objs.size x1 x2 := Heap.get?_push_size _ rfl
  rw [hsz] at hT' ⊢
  exact hQ x1 x2 _ tk2 hx1 hx2 (Heap.get?_push_of_some _ hzz) (Heap.get?_push_of_some _ hTI2) (D1.frame _ _ _ sn1' fun b _ o e => Heap.get?_push_of_some _ e) (D2.frame _ _ _ sn2 fun b _ o e => Heap.get?_push_of_some _ e) hT' (by rw [Heap.size_push, hsz]) fun c o cz c1 c2 e => Heap.get?_push_of_some _ (kk c o cz c1 c2 e)
theorem busy_end {Q : Fin → Shared → Prop} {o : Obj} (hzi1 : z ≠ i1) (hzi2 : z ≠ i2) (hTz : TI ≠ z) (hT1 : TI ≠ i1) (hT2 : TI ≠ i2) (zf1 : z ∉ fp1) (zf2 : z ∉ fp2) (sep1 : i1 ∉ fp2) (sep2 : i2 ∉ fp1)
    (D1 : Draws prog w A i1 fp1 n1 P1 St1) (D2 : Draws prog w A i2 fp2 n2 P2 St2)
    (hz : IsZipB s.heap z TI TO (rawInt T0) f1) (hf : f1 = .bool false ∨ f1 = .bool true) (hT : s.heap.get? T0 = some o) (hTI : IsTupOf2 s.heap TI (.ref i1) (.ref i2)) (st1 : St1 i s.heap) (st2 : St2 i s.heap) (hle1 : i ≤ n1) (hle2 : i ≤ n2) (hend : i = n1 ∨ i = n2)
    (hE : ∀ h' tk e, (∀ c o, c ≠ z → c ≠ i1 → c ≠ i2 → s.heap.get? c = some o → h'.get? c = some o) → (∃ o, h'.get? e = some o ∧ o.cls = .type "StopIteration") → E (.ref e) { s with heap := h', toks := tk }) :
    wpAny (model prog w) A (Builtin.«zip.__next__» ⟨[.ref z], []⟩) Q E s := by
  obtain ⟨hp, g, d, tk0, os⟩ := s
  show wpAny _ _ (field (.ref z) 2 >>= _) _ _ _
  refine wpAny_bind (wpAny_field hz rfl (x := .bool false) rfl ?_)
  show wpAny _ _ (field (.ref z) 3 >>= _) _ _ _
  refine wpAny_bind (wpAny_field hz rfl (x := .ref TI) rfl ?_)
  refine wpAny_bind (wpAny_seqItems hTI rfl ?_)
  show wpAny _ _ (Builtin.SmallTypes.ownedTupleIsFree (.ref z) >>= _) _ _ _
  refine wpAny_bind (busy hz hf hT fun g0 hz0 hs0 => ?_)
  replace hz0 : IsZipB g0 z TI TO (rawInt T0) (.bool true) := hz0
  replace hs0 : Heap.SameBut z hp g0 := hs0
  simp only [Bool.false_eq_true, if_false]
  refine wpAny_bind ?_
  simp only [List.forIn_toArray, ← Array.forIn_toList, List.forIn_cons, List.forIn_nil]
  refine wpAny_bind (wpAny_bind (wpAny_holding ?_))
  show wpAny _ _ (Builtin.SmallTypes.nextOf (.ref i1) >>= _) _ _ ⟨g0, g, d, tk0, os⟩
  by_cases hlt1 : i < n1
  · refine wpAny_bind (D1.item i _ _ _ hlt1 (D1.over st1 hs0 zf1) fun x1 p1 tk1 hx1 sn1 hp1 => wpAny_pure ?_)
    replace hp1 : Heap.SameBut i1 g0 p1 := hp1
    refine wpAny_pure ?_
    have hi2 : i = n2 := by omega
    refine wpAny_bind (wpAny_bind (wpAny_holding ?_))
    show wpAny _ _ (Builtin.SmallTypes.nextOf (.ref i2) >>= _) _ _ ⟨p1, g, d, tk1, os⟩
    refine wpAny_bind (D2.done ⟨p1, g, d, tk1, os⟩ _ _ (by rw [← hi2]; exact D2.over (D2.over st2 hs0 zf2) hp1 sep1) fun q e hq he => ?_)
    replace hq : Heap.ExtBut i2 p1 q := hq
    exact hE q tk1 e (fun c o cz c1 c2 x => hq _ _ c2 (hp1.extBut _ _ c1 (hs0.extBut _ _ cz x))) he
  · have hi1 : i = n1 := by omega
    refine wpAny_bind (D1.done ⟨g0, g, d, tk0, os⟩ _ _ (by rw [← hi1]; exact D1.over st1 hs0 zf1) fun q e hq he => ?_)
    replace hq : Heap.ExtBut i1 g0 q := hq
    exact hE q tk0 e (fun c o cz c1 c2 x => hq _ _ c1 (hs0.extBut _ _ cz x)) he
end
end ZP
set_option Elab.async false
set_option linter.all false
set_option maxRecDepth 100000
set_option maxHeartbeats 4000000
namespace ZP
open PySem
open PySem.Sem (wp)
/-- the zip's cells lie apart -/
structure Sep (z TI TO i1 i2 : Addr) (fp1 fp2 : List Addr) : Prop where
  S : ZipSep2 z TI TO i1 i2 fp1 fp2
structure ZS (z TI TO i1 i2 : Addr) (St1 St2 : Nat → Heap → Prop) (i : Nat) (h : Heap) : Prop where
  zip : (IsZip h z TI TO .none ∧ ∃ a1 a2, IsTupOf2 h TO a1 a2) ∨ ∃ (T0 : Addr) (f1 : Value) (o : Obj), IsZipB h z TI TO (rawInt T0) f1 ∧ (f1 = .bool false ∨ f1 = .bool true) ∧ h.get? T0 = some o
  ti : IsTupOf2 h TI (.ref i1) (.ref i2)
  s1 : St1 i h
  s2 : St2 i h
section
variable {prog : Program} {w : World} {A : Around} {E : Value → Shared → Prop} {s : Shared} {z TI TO i1 i2 : Addr} {fp1 fp2 : List Addr} {n1 n2 i : Nat} {P1 P2 : Nat → Value → Prop} {St1 St2 : Nat → Heap → Prop}
theorem ZS.next {Q : Option Value → Shared → Prop} (S : ZipSep2 z TI TO i1 i2 fp1 fp2) (D1 : Draws prog w A.in1 i1 fp1 n1 P1 St1) (D2 : Draws prog w A.in1 i2 fp2 n2 P2 St2) (st : ZS z TI TO i1 i2 St1 St2 i s.heap) (h1 : i < n1) (h2 : i < n2)
    (hQ : ∀ x1 x2 h' tk, P1 i x1 → P2 i x2 → ZS z TI TO i1 i2 St1 St2 (i + 1) h' → IsTupOf2 h' s.heap.objs.size x1 x2 → h'.objs.size = s.heap.objs.size + 1 →
      (∀ c o, c ≠ z → c ≠ TO → c ≠ i1 → c ≠ i2 → s.heap.get? c = some o → h'.get? c = some o) → Q (some (.ref s.heap.objs.size)) { s with heap := h', toks := tk }) :
    wpAny (model prog w) A (pyNext (.ref z)) Q E s := by
  obtain ⟨hz | ⟨T0, f1, o, hz, hf, hT⟩, hTI, st1, st2⟩ := st
  · obtain ⟨hz, a1, a2, hTO⟩ := hz
    refine wpAny_pyNext_zipD2_item S D1 D2 hz hTI hTO st1 st2 h1 h2 fun x1 x2 h' tk p1 p2 z' TO' s1' s2' t' sz fr => ?_
    exact hQ x1 x2 h' tk p1 p2 ⟨.inr ⟨_, _, _, z', .inl rfl, t'⟩, fr _ _ S.TIz S.TITO S.TIi1 S.TIi2 hTI, s1', s2'⟩ t' sz fr
  · have hTy : s.TypeIs (.ref z) "zip" := ⟨_, hz, rfl⟩
    unfold pyNext
    refine wpAny_bind (wpAny_attempt (wpAny_callSpecial?_slot (name := Str.ofString "__next__") hTy F.slot_zip_next
      (wpAny_call_entry F.slot_zip_next hTy F.entry_zip_next
        (busy_item S.zi1 S.zi2 S.TIz S.TIi1 S.TIi2 S.zf1 S.zf2 S.sep1_2 S.sep2_1 D1 D2 hz hf hT hTI st1 st2 h1 h2 fun x1 x2 h' tk p1 p2 z' ti' s1' s2' t' sz fr => wpAny_pure ?_) (F.args_zip_next_1 _))))
    by_cases hTz : T0 = z
    · exact hQ x1 x2 h' tk p1 p2 ⟨.inr ⟨T0, _, _, z', .inr rfl, by rw [hTz]; exact z'⟩, ti', s1', s2'⟩ t' sz fun c o a b c' d e => fr c o a c' d e
    by_cases hT1 : T0 = i1
    · obtain ⟨o', e'⟩ := D1.live _ _ s1'
      exact hQ x1 x2 h' tk p1 p2 ⟨.inr ⟨T0, _, _, z', .inr rfl, by rw [hT1]; exact e'⟩, ti', s1', s2'⟩ t' sz fun c o a b c' d e => fr c o a c' d e
    by_cases hT2 : T0 = i2
    · obtain ⟨o', e'⟩ := D2.live _ _ s2'
      exact hQ x1 x2 h' tk p1 p2 ⟨.inr ⟨T0, _, _, z', .inr rfl, by rw [hT2]; exact e'⟩, ti', s1', s2'⟩ t' sz fun c o a b c' d e => fr c o a c' d e
    exact hQ x1 x2 h' tk p1 p2 ⟨.inr ⟨T0, _, _, z', .inr rfl, fr _ _ hTz hT1 hT2 hT⟩, ti', s1', s2'⟩ t' sz fun c o a b c' d e => fr c o a c' d e
theorem ZS.stop {Q : Option Value → Shared → Prop} (S : ZipSep2 z TI TO i1 i2 fp1 fp2) (D1 : Draws prog w A.in1 i1 fp1 n1 P1 St1) (D2 : Draws prog w A.in1 i2 fp2 n2 P2 St2) (st : ZS z TI TO i1 i2 St1 St2 i s.heap) (h1 : i ≤ n1) (h2 : i ≤ n2) (he : i = n1 ∨ i = n2)
    (hQ : ∀ h' tk, (∀ c o, c ≠ z → c ≠ TO → c ≠ i1 → c ≠ i2 → s.heap.get? c = some o → h'.get? c = some o) → Q none { s with heap := h', toks := tk }) :
    wpAny (model prog w) A (pyNext (.ref z)) Q E s := by
  obtain ⟨hz | ⟨T0, f1, o, hz, hf, hT⟩, hTI, st1, st2⟩ := st
  · obtain ⟨hz, a1, a2, hTO⟩ := hz
    exact wpAny_pyNext_zipD2_end S D1 D2 hz hTI hTO st1 st2 h1 h2 he hQ
  · have hTy : s.TypeIs (.ref z) "zip" := ⟨_, hz, rfl⟩
    unfold pyNext
    refine wpAny_bind (wpAny_attempt (wpAny_callSpecial?_slot (name := Str.ofString "__next__") hTy F.slot_zip_next
      (wpAny_call_entry F.slot_zip_next hTy F.entry_zip_next
        (busy_end S.zi1 S.zi2 S.TIz S.TIi1 S.TIi2 S.zf1 S.zf2 S.sep1_2 S.sep2_1 D1 D2 hz hf hT hTI st1 st2 h1 h2 he fun h' tk e hk hs => ?_) (F.args_zip_next_1 _))))
    obtain ⟨o, ho, hc⟩ := hs
    refine wpAny_bind (wpAny_isInstance (T := "StopIteration") (b := true) ⟨o, ho, hc⟩ isSubtype_stop ?_)
    exact wpAny_pure (hQ _ _ fun c o a b c' d e => hk c o a c' d e)
theorem ZS.keep (D1 : Draws prog w A i1 fp1 n1 P1 St1) (D2 : Draws prog w A i2 fp2 n2 P2 St2) {h h' : Heap} (st : ZS z TI TO i1 i2 St1 St2 i h) (k : ∀ c o, h.get? c = some o → ∃ o', h'.get? c = some o') (kz : ∀ c, c = z ∨ c = TI ∨ c = TO ∨ c ∈ fp1 ∨ c ∈ fp2 → ∀ o, h.get? c = some o → h'.get? c = some o) : ZS z TI TO i1 i2 St1 St2 i h' := by
  obtain ⟨hz | ⟨T0, f1, o, hz, hf, hT⟩, hTI, st1, st2⟩ := st
  · obtain ⟨hz, a1, a2, hTO⟩ := hz
    exact ⟨.inl ⟨kz _ (.inl rfl) _ hz, a1, a2, kz _ (.inr (.inr (.inl rfl))) _ hTO⟩, kz _ (.inr (.inl rfl)) _ hTI, D1.frame _ _ _ st1 fun b hb => kz b (.inr (.inr (.inr (.inl hb)))), D2.frame _ _ _ st2 fun b hb => kz b (.inr (.inr (.inr (.inr hb))))⟩
  · obtain ⟨o', e'⟩ := k _ _ hT
    exact ⟨.inr ⟨T0, f1, o', kz _ (.inl rfl) _ hz, hf, e'⟩, kz _ (.inr (.inl rfl)) _ hTI, D1.frame _ _ _ st1 fun b hb => kz b (.inr (.inr (.inr (.inl hb)))), D2.frame _ _ _ st2 fun b hb => kz b (.inr (.inr (.inr (.inr hb))))⟩
theorem old_ne {z m c : Nat} (h : z < m) (q : m ≤ c) : c ≠ z := fun e => by subst e; exact absurd (Nat.lt_of_lt_of_le h q) (Nat.lt_irrefl _)
/-- the list holds the pairs so far, all of them younger than m -/
def Got (P1 P2 : Nat → Value → Prop) (m : Nat) (h : Heap) (acc : Array Value) (i : Nat) : Prop :=
  acc.size = i ∧ (∀ (j : Nat) (v : Value), acc[j]? = some v → ∃ t x1 x2, v = .ref t ∧ IsTupOf2 h t x1 x2 ∧ P1 j x1 ∧ P2 j x2 ∧ m ≤ t) ∧ ∀ (j j' : Nat) (v : Value), acc[j]? = some v → acc[j']? = some v → j = j'
theorem Got.keep {m : Nat} {h h' : Heap} {acc : Array Value} (g : Got P1 P2 m h acc i) (k : ∀ c o, m ≤ c → h.get? c = some o → h'.get? c = some o) : Got P1 P2 m h' acc i :=
  ⟨g.1, fun j v e => by
    obtain ⟨t, x1, x2, e1, e2, e3, e4, e5⟩ := g.2.1 j v e
    exact ⟨t, x1, x2, e1, k _ _ e5 e2, e3, e4, e5⟩, g.2.2⟩
theorem Got.push {m : Nat} {h : Heap} {acc : Array Value} {t : Addr} {x1 x2 : Value} (g : Got P1 P2 m h acc i) (ht : IsTupOf2 h t x1 x2) (p1 : P1 i x1) (p2 : P2 i x2) (hm : m ≤ t) (new : ∀ j : Nat, acc[j]? ≠ some (.ref t)) : Got P1 P2 m h (acc.push (.ref t)) (i + 1) := by
  have at_ : ∀ j v, (acc.push (.ref t))[j]? = some v → (j = acc.size ∧ v = .ref t) ∨ acc[j]? = some v := fun j v hj => by
    rw [Array.getElem?_push] at hj
    split at hj
    · rename_i e
      cases hj
      exact .inl ⟨e, rfl⟩
    · exact .inr hj
  refine ⟨by rw [Array.size_push, g.1], fun j v hj => ?_, fun j j' v hj hj' => ?_⟩
  rotate_left
  · rcases at_ j v hj with ⟨e1, e2⟩ | e1 <;> rcases at_ j' v hj' with ⟨e3, e4⟩ | e3
    · rw [e1, e3]
    · exact absurd (e2 ▸ e3) (new j')
    · exact absurd (e4 ▸ e1) (new j)
    · exact g.2.2 j j' v e1 e3
  rw [Array.getElem?_push] at hj
  split at hj
  · rename_i e
    rw [g.1] at e
    cases hj
    subst e
    exact ⟨t, x1, x2, rfl, ht, p1, p2, hm⟩
  · exact g.2.1 j v hj
theorem loop {R : Result → Shared → Prop} (S : ZipSep2 z TI TO i1 i2 fp1 fp2) (D1 : Draws prog w A.in1.in1 i1 fp1 n1 P1 St1) (D2 : Draws prog w A.in1.in1 i2 fp2 n2 P2 St2) (hn : n1 ≤ sizeLine) (L : Addr) (m : Nat) (hm : z < m ∧ TI < m ∧ TO < m ∧ i1 < m ∧ i2 < m ∧ L < m)
    (hL : L ≠ z ∧ L ≠ TI ∧ L ≠ TO ∧ L ∉ fp1 ∧ L ∉ fp2) (res : Value) :
    ∀ (k i : Nat) (s : Shared) (acc : Array Value) (c : Nat), min n1 n2 - i = k → i ≤ n1 → i ≤ n2 → ZS z TI TO i1 i2 St1 St2 i s.heap → s.heap.get? L = some { cls := .type "list", dict := none, data := .seq acc c, slots := #[] } → Got P1 P2 m s.heap acc i → m ≤ s.heap.objs.size →
    (∀ h' tk acc' c', (∀ b o, b ≠ z → b ≠ TO → b ≠ i1 → b ≠ i2 → b ≠ L → s.heap.get? b = some o → h'.get? b = some o) → h'.get? L = some { cls := .type "list", dict := none, data := .seq acc' c', slots := #[] } → Got P1 P2 m h' acc' (min n1 n2) → R (.ok (.ret res)) { s with heap := h', toks := tk }) →
    codeAny (model prog w) A (.builtin "list.extend.loop" ⟨[.ref L, .ref z, res], []⟩) R s := by
  intro k
  induction k with
  | zero =>
    intro i s acc c hk hi1 hi2 st hS hacc hsz hR
    have hin : i = min n1 n2 := by omega
    refine codeAny_builtin F.entry_extend_loop ?_
    rw [Around.under_plainId F.plain_extend_loop _]
    show wpAny _ A.in1 (pyNext (.ref z) >>= _) _ _ s
    refine wpAny_bind (ZS.stop S D1 D2 st hi1 hi2 (by omega) fun h' tk fr => ?_)
    have hl : L ≠ i1 ∧ L ≠ i2 := ⟨fun e => hL.2.2.2.1 (e ▸ S.mem1), fun e => hL.2.2.2.2 (e ▸ S.mem2)⟩
    refine wpAny_pure (hR h' tk acc c (fun b o a1 a2 a3 a4 _ e => fr b o a1 a2 a3 a4 e) (fr _ _ hL.1 hL.2.2.1 hl.1 hl.2 hS) ?_)
    rw [← hin]
    exact hacc.keep fun c o q e => fr c o (old_ne hm.1 q) (old_ne hm.2.2.1 q) (old_ne hm.2.2.2.1 q) (old_ne hm.2.2.2.2.1 q) e
  | succ k ih =>
    intro i s acc c hk hi1 hi2 st hS hacc hsz hR
    have hl : L ≠ i1 ∧ L ≠ i2 := ⟨fun e => hL.2.2.2.1 (e ▸ S.mem1), fun e => hL.2.2.2.2 (e ▸ S.mem2)⟩
    refine codeAny_builtin F.entry_extend_loop ?_
    rw [Around.under_plainId F.plain_extend_loop _]
    show wpAny _ A.in1 (pyNext (.ref z) >>= _) _ _ s
    refine wpAny_bind (ZS.next S D1 D2 st (by omega) (by omega) fun x1 x2 h' tk p1 p2 st' ht sz fr => ?_)
    have hS' := fr _ _ hL.1 hL.2.2.1 hl.1 hl.2 hS
    show wpAny _ A.in1 (updateSeq L (·.push (.ref s.heap.objs.size)) >>= _) _ _ _
    refine wpAny_bind ?_
    have g1 : Got P1 P2 m h' (acc.push (.ref s.heap.objs.size)) (i + 1) := (hacc.keep fun c o q e => fr c o (old_ne hm.1 q) (old_ne hm.2.2.1 q) (old_ne hm.2.2.2.1 q) (old_ne hm.2.2.2.2.1 q) e).push ht p1 p2 hsz fun j e => by
      obtain ⟨t, _, _, e1, e2, _⟩ := hacc.2.1 j _ e
      cases e1
      exact absurd (Heap.lt_size e2) (Nat.lt_irrefl _)
    have upd : ∀ c o, c ≠ L → h'.get? c = some o → (h'.update L (Obj.mapSeq (·.push (.ref s.heap.objs.size)))).get? c = some o := fun c o q e => (Heap.get?_update_other _ _ (Ne.symm q)).trans e
    have hL2 : (h'.update L (Obj.mapSeq (·.push (.ref s.heap.objs.size)))).get? L = some { cls := .type "list", dict := none, data := .seq (acc.push (.ref s.heap.objs.size)) _, slots := #[] } := Heap.get?_update_self _ hS' rfl
    have szu : (h'.update L (Obj.mapSeq (·.push (.ref s.heap.objs.size)))).objs.size = h'.objs.size := (Heap.SameBut.update ..).1
    refine wpAny_updateSeq hS' rfl (wpAny_pure ⟨plainId_quiet F.plain_extend_loop _, ih (i + 1) _ (acc.push (.ref s.heap.objs.size)) _ (by omega) (by omega) (by omega) (st'.keep D1 D2 (fun c o e => ?_) (fun c hc o e => ?_)) hL2 (g1.keep fun c o q e => upd c o (old_ne hm.2.2.2.2.2 q) e) (by show m ≤ (h'.update L _).objs.size; rw [szu]; omega) fun h2 tk2 acc' c' fr2 hL' g' => ?_⟩)
      (by rw [hacc.1]; omega) (by show (acc.push _).size ≤ sizeLine + 1; rw [Array.size_push, hacc.1]; omega)
    · by_cases q : c = L
      · rw [q]; exact ⟨_, hL2⟩
      · exact ⟨o, upd c o q e⟩
    · refine upd c o ?_ e
      rcases hc with rfl | rfl | rfl | hc | hc
      · exact Ne.symm hL.1
      · exact Ne.symm hL.2.1
      · exact Ne.symm hL.2.2.1
      · exact fun q => hL.2.2.2.1 (q ▸ hc)
      · exact fun q => hL.2.2.2.2 (q ▸ hc)
    · exact hR h2 tk2 acc' c' (fun b o a1 a2 a3 a4 a5 e => fr2 b o a1 a2 a3 a4 a5 (upd b o a5 (fr b o a1 a2 a3 a4 e))) hL' g'
theorem extend_zip {R : Result → Shared → Prop} (S : ZipSep2 z TI TO i1 i2 fp1 fp2) (D1 : Draws prog w A.in1.in1 i1 fp1 n1 P1 St1) (D2 : Draws prog w A.in1.in1 i2 fp2 n2 P2 St2) (hn : n1 ≤ sizeLine) (L : Addr) (hm : z < s.heap.objs.size ∧ TI < s.heap.objs.size ∧ TO < s.heap.objs.size ∧ i1 < s.heap.objs.size ∧ i2 < s.heap.objs.size ∧ L < s.heap.objs.size)
    (hL : L ≠ z ∧ L ≠ TI ∧ L ≠ TO ∧ L ∉ fp1 ∧ L ∉ fp2) (res : Value) (c₀ : Nat) (st : ZS z TI TO i1 i2 St1 St2 0 s.heap) (hS : s.heap.get? L = some { cls := .type "list", data := .seq #[] c₀ })
    (hR : ∀ h' tk acc' c', (∀ b o, b ≠ z → b ≠ TO → b ≠ i1 → b ≠ i2 → b ≠ L → s.heap.get? b = some o → h'.get? b = some o) → h'.get? L = some { cls := .type "list", dict := none, data := .seq acc' c', slots := #[] } → Got P1 P2 s.heap.objs.size h' acc' (min n1 n2) → R (.ok (.ret res)) { s with heap := h', toks := tk }) :
    wpAny (model prog w) A.in1 (Builtin.List.listExtendWith (.ref L) (.ref z) res)
      (fun fin s' => match fin with | .done f => R (.ok f) s' | .again c' => c'.quiet = true ∧ codeAny (model prog w) A c' R s') (fun e s' => R (.error e) s') s := by
  have hT : s.TypeIs (.ref z) "zip" := by
    rcases st.zip with ⟨hz, _⟩ | ⟨_, _, _, hz, _⟩
    · exact ⟨_, hz, rfl⟩
    · exact ⟨_, hz, rfl⟩
  unfold Builtin.List.listExtendWith
  refine wpAny_bind (wpAny_typeOf hT ?_)
  have h1 : Builtin.List.listSameRef (.ref L) (.ref z) = false := by simp [Builtin.List.listSameRef, hL.1]
  have h2 : (Value.type "zip" == Value.type "list") = false := by decide
  have h3 : (Value.type "zip" == Value.type "tuple") = false := by decide
  simp only [h1, h2, h3, Bool.or_false, Bool.false_eq_true, if_false]
  have self : ∀ {Q : Value → Shared → Prop} {E : Value → Shared → Prop}, Q (.ref z) s → wpAny (model prog w) A.in1 (pyIter (.ref z)) Q E s := fun q => by
    refine wpAny_pyIter_slot hT F.slot_zip_iter (wpAny_call_entry F.slot_zip_iter hT F.entry_zip_iter ?_ (F.args_zip_iter_1 _))
    show wpAny _ _ (ret (.ref z)) _ _ s
    exact wpAny_pure ⟨_, rfl, "zip", _, hT, F.slot_zip_next.lookup, q⟩
  refine wpAny_bind (self ?_)
  refine wpAny_bind (wpAny_holding ?_)
  unfold Builtin.List.listLengthHint
  refine wpAny_bind (wpAny_specialOf hT no_len ?_)
  show wpAny _ A.in1 (specialOf (Value.ref z) (Str.ofString "__length_hint__") >>= _) _ _ _
  refine wpAny_bind (wpAny_specialOf hT no_hint ?_)
  refine wpAny_pure ?_
  show wpAny _ A.in1 (rule "list.extend.makes-room" >>= fun _ => Builtin.List.listTouch (.ref L) >>= fun _ =>
    again (.builtin "list.extend.loop" ⟨[.ref L, .ref z, res], []⟩)) _ _ _
  refine wpAny_bind (wpAny_rule ?_)
  refine wpAny_bind ?_
  show wpAny _ A.in1 (updateSeq L (·.push .none) >>= fun _ => updateSeq L (·.pop)) _ _ _
  refine wpAny_bind (wpAny_updateSeq hS rfl ?_)
  have hS₂ := Heap.get?_update_self (Obj.mapSeq (·.push Value.none)) hS rfl
  refine wpAny_updateSeq (hz := by seq_fits) hS₂ rfl ?_
  have hS₃ := Heap.get?_update_self (Obj.mapSeq (·.pop)) hS₂ rfl
  have oth : ∀ b o, b ≠ L → s.heap.get? b = some o → ((s.heap.update L (Obj.mapSeq (·.push Value.none))).update L (Obj.mapSeq (·.pop))).get? b = some o :=
    fun b o hb e => (Heap.get?_update_other _ _ (Ne.symm hb)).trans ((Heap.get?_update_other _ _ (Ne.symm hb)).trans e)
  have szu : ((s.heap.update L (Obj.mapSeq (·.push Value.none))).update L (Obj.mapSeq (·.pop))).objs.size = s.heap.objs.size := (Heap.SameBut.update ..).1.trans (Heap.SameBut.update ..).1
  refine wpAny_pure ⟨plainId_quiet F.plain_extend_loop _, loop S D1 D2 hn L s.heap.objs.size hm hL res (min n1 n2) 0 _ _ _ rfl (Nat.zero_le _) (Nat.zero_le _)
    (st.keep D1 D2 (fun c o e => ?_) fun c hc o e => oth c o ?_ e) hS₃ ⟨rfl, fun j v h => by simp at h, fun j j' v h => by simp at h⟩ (Nat.le_of_eq szu.symm) fun h' tk acc' c' fr hL' g => hR h' tk acc' c' (fun b o a1 a2 a3 a4 a5 e => fr b o a1 a2 a3 a4 a5 (oth b o a5 e)) hL' g⟩
  · by_cases q : c = L
    · rw [q]; exact ⟨_, hS₃⟩
    · exact ⟨o, oth c o q e⟩
  · rcases hc with rfl | rfl | rfl | hc | hc
    · exact Ne.symm hL.1
    · exact Ne.symm hL.2.1
    · exact Ne.symm hL.2.2.1
    · exact fun q => hL.2.2.2.1 (q ▸ hc)
    · exact fun q => hL.2.2.2.2 (q ▸ hc)
end
end ZP
set_option Elab.async false
set_option linter.all false
set_option maxRecDepth 100000
set_option maxHeartbeats 4000000
namespace ZP
open PySem PySem.Spec PyProof.Rows L2
open PySem.Sem (wp)
/-- a list or a tuple -/
def Sq (h : Heap) (a : Addr) (its : Array Value) : Prop := h.IsList a its ∨ h.IsTuple a its
/-- an iterator of it, at place i -/
def SqI (b : Bool) (h : Heap) (it a : Addr) (i : Nat) : Prop := match b with
  | true => h.IsListIter it a i
  | false => h.IsTupleIter it a i
def SqB (b : Bool) (h : Heap) (a : Addr) (its : Array Value) : Prop := match b with
  | true => h.IsList a its
  | false => h.IsTuple a its
def SqO (b : Bool) (a : Addr) : Obj := match b with
  | true => { cls := .type "list_iterator", data := .fields #[.ref a, .int 0 0] }
  | false => { cls := .type "tuple_iterator", data := .fields #[.ref a, .int 0 0] }
theorem sq_begins (b : Bool) (a : Addr) (its : Array Value) : Begins (.ref a) (SqO b a) fun h => SqB b h a its := by
  cases b
  · exact begins_tuple a its
  · exact begins_list a its
theorem sq_draws {prog : Program} {w : World} {A : Around} (hh : A.handled = none) (b : Bool) (it a : Addr) (hne : a ≠ it) (its : Array Value) : Draws prog w A it [it, a] its.size (fun i v => its[i]? = some v) fun i h => SqI b h it a i ∧ SqB b h a its := by
  cases b
  · exact Draws.tuple hh it a hne its
  · exact Draws.list hh it a hne its
theorem sq_new {b : Bool} {h : Heap} {it a : Addr} (e : h.get? it = some (SqO b a)) : SqI b h it a 0 := by
  cases b
  · exact ⟨_, e, rfl, rfl⟩
  · exact ⟨_, e, rfl, rfl⟩
theorem SqB.at {b : Bool} {h h' : Heap} {a : Addr} {its : Array Value} (x : SqB b h a its) (k : ∀ o, h.get? a = some o → h'.get? a = some o) : SqB b h' a its := by
  cases b
  · exact Heap.IsTuple.at x k
  · exact Heap.IsList.at x k
theorem SqI.at {b : Bool} {h h' : Heap} {it a : Addr} {i : Nat} (x : SqI b h it a i) (k : ∀ o, h.get? it = some o → h'.get? it = some o) : SqI b h' it a i := by
  cases b
  · exact Heap.IsTupleIter.at x k
  · exact Heap.IsListIter.at x k
theorem SqI.ob {b : Bool} {h : Heap} {it a : Addr} {i : Nat} (x : SqI b h it a i) : ∃ o, h.get? it = some o ∧ ∀ v, o.data ≠ .cell v := by
  cases b
  · obtain ⟨o, e, _, d⟩ := x; exact ⟨o, e, fun v q => by rw [d] at q; cases q⟩
  · obtain ⟨o, e, _, d⟩ := x; exact ⟨o, e, fun v q => by rw [d] at q; cases q⟩
theorem SqB.lt {b : Bool} {h : Heap} {a : Addr} {its : Array Value} (x : SqB b h a its) : a < h.objs.size := by
  cases b
  · obtain ⟨o, e, _⟩ := x; exact Heap.lt_size e
  · obtain ⟨o, e, _⟩ := x; exact Heap.lt_size e
theorem sep_new (n a b : Nat) (ha : a < n) (hb : b < n) : ZipSep2 (n + 4) (n + 2) (n + 3) n (n + 1) [n, a] [n + 1, b] := by
  constructor <;> first
    | (show (_ : Nat) ≠ _; omega)
    | (simp; done)
    | (simp only [List.mem_cons, List.not_mem_nil, or_false, not_or]; (refine ⟨?_, ?_⟩ <;> (show (_ : Nat) ≠ _; omega)))
section
variable {prog : Program} {w : World} {A : Around} {E : Value → Shared → Prop} {s : Shared}
/-- list(zip(a, b)), behind the zip's making -/
theorem call_list_zip {b1 b2 : Bool} {l1 l2 : Addr} {xs ys : Array Value} {n : Nat} {Q : Value → Shared → Prop} (hh : A.handled = none) (h1 : SqB b1 s.heap l1 xs) (h2 : SqB b2 s.heap l2 ys) (n1 : l1 < n) (n2 : l2 < n) (hz : IsZip s.heap (n + 4) (n + 2) (n + 3) .none) (hTI : IsTupOf2 s.heap (n + 2) (.ref n) (.ref (n + 1))) (hTO : IsTupOf2 s.heap (n + 3) .none .none)
    (i1 : s.heap.get? n = some (SqO b1 l1)) (i2 : s.heap.get? (n + 1) = some (SqO b2 l2)) (sz : s.heap.objs.size = n + 5) (hx : xs.size ≤ sizeLine)
    (hQ : ∀ h' tk acc c', (∀ b o, b < n → s.heap.get? b = some o → h'.get? b = some o) → h'.get? (n + 5) = some { cls := .type "list", dict := none, data := .seq acc c', slots := #[] } →
      Got (fun i v => xs[i]? = some v) (fun i v => ys[i]? = some v) (n + 6) h' acc (min xs.size ys.size) → Q (.ref (n + 5)) { s with heap := h', toks := tk }) :
    wpAny (model prog w) A (call (.type "list") [.ref (n + 4 : Nat)]) Q E s := by
  refine callType_codes (Q₁ := fun obj s₁ => obj = .ref s.heap.objs.size ∧ s₁ = { s with heap := s.heap.push { cls := .type "list", data := .seq #[] } }) F.called_list (F.typeCall_list_1 _) F.entry_list_init
    (code_list_new _ ⟨rfl, rfl⟩) fun obj s₁ h₁ => ?_
  obtain ⟨rfl, rfl⟩ := h₁
  have hS : (s.heap.push { cls := .type "list", data := .seq #[] }).get? s.heap.objs.size = some { cls := .type "list", data := .seq #[] } := Heap.get?_push_size _ rfl
  have hS₂ := Heap.get?_update_self (Obj.mapSeq (fun _ => (#[] : Array Value))) hS rfl
  have oth : ∀ b o, s.heap.get? b = some o → ((s.heap.push { cls := .type "list", data := .seq #[] }).update s.heap.objs.size (Obj.mapSeq (fun _ => (#[] : Array Value)))).get? b = some o :=
    fun b o e => (Heap.get?_update_other _ _ (Nat.ne_of_gt (Heap.lt_size e))).trans (Heap.get?_push_of_some _ e)
  have szu : ((s.heap.push { cls := .type "list", data := .seq #[] }).update s.heap.objs.size (Obj.mapSeq (fun _ => (#[] : Array Value)))).objs.size = n + 6 := (Heap.SameBut.update ..).1.trans (by rw [Heap.size_push, sz])
  refine ⟨⟨_, hS, rfl⟩, F.args_list_init_2 _ _, ?_⟩
  show wpAny _ A.in1.in1 (do let old ← Builtin.List.listItems (.ref s.heap.objs.size); Builtin.List.listUpdate (.ref s.heap.objs.size) (fun _ => #[]); letGo old.toList.reverse; Builtin.List.listExtendWith (.ref s.heap.objs.size) (.ref (n + 4 : Nat)) .none) _ _ _
  refine wpAny_bind ?_
  unfold Builtin.List.listItems
  refine wpAny_bind (wpAny_seqItems hS rfl (wpAny_pure ?_))
  show wpAny _ A.in1.in1 (updateSeq s.heap.objs.size (fun _ => #[]) >>= fun _ => letGo (#[] : Array Value).toList.reverse >>= fun _ => Builtin.List.listExtendWith (.ref s.heap.objs.size) (.ref (n + 4 : Nat)) .none) _ _ _
  refine wpAny_bind (wpAny_updateSeq hS rfl ?_)
  refine wpAny_bind (wpAny_letGo ?_)
  have hsep := sep_new n l1 l2 n1 n2
  have d1 := sq_draws (prog := prog) (w := w) (A := A.in1.in1.in1) hh b1 n l1 (Nat.ne_of_lt n1) xs
  have d2 := sq_draws (prog := prog) (w := w) (A := A.in1.in1.in1) hh b2 (n + 1) l2 (Nat.ne_of_lt (Nat.lt_succ_of_lt n2)) ys
  refine extend_zip (A := A.in1) hsep d1 d2 hx s.heap.objs.size ?_ ?_ .none _ ⟨.inl ⟨oth _ _ hz, _, _, oth _ _ hTO⟩, oth _ _ hTI, ⟨(sq_new i1).at (oth _), h1.at (oth _)⟩, ⟨(sq_new i2).at (oth _), h2.at (oth _)⟩⟩ hS₂ fun h' tk acc c' fr hL g => ⟨rfl, ?_⟩
  · show (n + 4 : Nat) < _ ∧ (n + 2 : Nat) < _ ∧ (n + 3 : Nat) < _ ∧ (n : Nat) < _ ∧ (n + 1 : Nat) < _ ∧ (s.heap.objs.size : Nat) < _
    dsimp only
    rw [szu, sz]
    omega
  · rw [sz]
    simp only [List.mem_cons, List.not_mem_nil, or_false, not_or]
    have m1 : ∀ k : Nat, (n + k : Nat) ≠ l1 := fun k e => absurd (e ▸ n1 : (n + k : Nat) < n) (by omega)
    have m2 : ∀ k : Nat, (n + k : Nat) ≠ l2 := fun k e => absurd (e ▸ n2 : (n + k : Nat) < n) (by omega)
    refine ⟨?_, ?_, ?_, ⟨?_, m1 5⟩, ?_, m2 5⟩ <;> (show (_ : Nat) ≠ _; omega)
  · have oth' := oth
    rw [sz] at hL fr oth' ⊢
    have g' : Got (fun i v => xs[i]? = some v) (fun i v => ys[i]? = some v) (n + 6) h' acc (min xs.size ys.size) := by
      have e : (Shared.heap { s with heap := (s.heap.push { cls := .type "list", data := .seq #[] }).update s.heap.objs.size (Obj.mapSeq (fun _ => (#[] : Array Value))) }).objs.size = n + 6 := szu
      rw [← e]
      exact g
    refine hQ h' tk acc c' (fun b o hb e => fr b o ?_ ?_ ?_ ?_ ?_ (oth' b o e)) hL g' <;> (show (_ : Nat) ≠ _; omega)
end
/-! ### the pairs laid -/
def lay (H : Hp) : List Addr → List V → List V → Hp
  | t :: ts, x :: xs, y :: ys => lay (upd H t (.tup [x, y])) ts xs ys
  | _, _, _ => H
end ZP
set_option Elab.async false
set_option linter.all false
set_option maxRecDepth 100000
set_option maxHeartbeats 4000000
namespace ZP
open PySem PySem.Spec PyProof.Rows L2
open PySem.Sem (wp)
theorem lay_ne : ∀ (ts : List Addr) (xs ys : List V) (H : Hp) (b : Addr), b ∉ ts → lay H ts xs ys b = H b
  | [], _, _, _, _, _ => by simp [lay]
  | _ :: _, [], _, _, _, _ => by simp [lay]
  | _ :: _, _ :: _, [], _, _, _ => by simp [lay]
  | t :: ts, x :: xs, y :: ys, H, b, h => by
    simp only [List.mem_cons, not_or] at h
    rw [lay, lay_ne ts xs ys _ b h.2, upd_ne h.1]
section
variable {X : Cx} {pins : List (Addr × Obj)} {σ : L2.St} {H : Hp} {s : Shared} {h' : Heap}
theorem lays : ∀ (ts : List Addr) (xs ys : List V) (H0 : Hp), Un X.fs [] H H0 s.heap h' → HOk X.prog X.w H0 h' → (∀ t ∈ ts, H0 t = none ∧ s.heap.objs.size ≤ t) → ts.Nodup →
    (∀ (j : Nat) (t : Addr) (x y : V), ts[j]? = some t → xs[j]? = some x → ys[j]? = some y → ∃ u v, RelV x u ∧ RelV y v ∧ IsTupOf2 h' t u v) →
    Un X.fs [] H (lay H0 ts xs ys) s.heap h' ∧ HOk X.prog X.w (lay H0 ts xs ys) h'
  | [], _, _, H0, un, ok, _, _, _ => by simp only [lay]; exact ⟨un, ok⟩
  | _ :: _, [], _, H0, un, ok, _, _, _ => by simp only [lay]; exact ⟨un, ok⟩
  | _ :: _, _ :: _, [], H0, un, ok, _, _, _ => by simp only [lay]; exact ⟨un, ok⟩
  | t :: ts, x :: xs, y :: ys, H0, un, ok, hn, nd, hp => by
    obtain ⟨t0, t1⟩ := hn t List.mem_cons_self
    obtain ⟨u, v, ru, rv, ht⟩ := hp 0 t x y rfl rfl rfl
    rw [List.nodup_cons] at nd
    rw [lay]
    refine lays ts xs ys (upd H0 t (.tup [x, y])) ?_ ?_ (fun t' h => ?_) nd.2 fun j t' x' y' e1 e2 e3 => hp (j + 1) t' x' y' e1 e2 e3
    · exact {
        keep := un.keep
        slot := un.slot
        free := fun b o e n hx => by
          rw [upd_ne (Nat.ne_of_lt (Nat.lt_of_lt_of_le (Heap.lt_size e) t1))]
          exact un.free b o e n hx
        there := un.there
        tups := fun b zs e => by
          have := un.tups b zs e
          rw [upd_ne (ne_of_none this t0)]
          exact this
        frzs := fun b o w e => by
          have := un.frzs b o w e
          rw [upd_ne (ne_of_none this t0)]
          exact this
        tbls := fun b ps e => by
          obtain ⟨more, this⟩ := un.tbls b ps e
          exact ⟨more, by rw [upd_ne (ne_of_none this t0)]; exact this⟩ }
    · intro b w e
      by_cases hb : b = t
      · subst hb
        rw [upd_same] at e
        cases e
        exact ⟨by show 2 ≤ sizeLine; decide, [u, v], .cons ru (.cons rv .nil), ⟨_, ht, rfl, _, rfl⟩⟩
      · rw [upd_ne hb] at e
        exact (ok b w e).stay (fun c v _ q => q) (fun c q => by rw [upd_ne (ne_of_none q t0)]; exact q) fun c zs q => by rw [upd_ne (ne_of_none q t0)]; exact q
    · obtain ⟨a1, a2⟩ := hn t' (List.mem_cons_of_mem _ h)
      refine ⟨?_, a2⟩
      rw [upd_ne (fun (e : t' = t) => nd.1 (by rw [← e]; exact h))]
      exact a1
theorem sq_of {K : PySem.W.Frag} (hK : X.K = K) (I : Inv X pins σ H s) {a : Addr} {xs : List V} (h : SqL K H a xs ∨ SqT K H a xs) : ∃ (b : Bool) (its : List Value), Vals xs its ∧ SqB b s.heap a its.toArray ∧ xs.length ≤ sizeLine := by
  subst hK
  rcases h with h | h
  · obtain ⟨its, r, p, z⟩ := I.list h
    exact ⟨true, its, r, p.isList, z⟩
  · obtain ⟨its, r, p, z⟩ := I.tuple h
    exact ⟨false, its, r, p, z⟩
end
/-- list(zip(a, b)) -/
def tLz (K : PySem.W.Frag) (ta : TA) : TE := fun σ H Q => ta σ H fun vs H1 => ∃ a b xs ys, vs = [.ref a, .ref b] ∧ (SqL K H1 a xs ∨ SqT K H1 a xs) ∧ (SqL K H1 b ys ∨ SqT K H1 b ys) ∧
  ∀ (ts : List Addr) (p : Addr), ts.length = min xs.length ys.length → ts.Nodup → (∀ t ∈ ts, H1 t = none) → H1 p = none → p ∉ ts → Q (.ref p) (upd (lay H1 ts xs ys) p (.lst (ts.map V.ref)))
theorem pe_lz {X : Cx} {e e2 : Expr} {ta : TA} {p p2 pos pos2 : Pos} (hc : X.calm = true) (hg : Gl X "list") (hm : X.mg "list" = none) (hg2 : Gl X "zip") (hm2 : X.mg "zip" = none) (ha : PA X [e, e2] ta)
    (hs : starEach [e, e2] X.env = (false, eval e X.env) :: starEach [e2] X.env) (hpl : (backTo pos2 (starEach [e2] X.env)).any (·.1) = false) :
    PE X (.Call (.Name "list" p) [.Call (.Name "zip" p2) [e, e2] [] pos2] [] pos) (tLz X.K ta) := by
  refine ⟨fun pins s σ H Q I h => ?_⟩
  refine Call_ (ld_blt I hg hm boot_list (PyProof.Rows.callWith_type1 (args_cons ?_ rfl) rfl))
  refine Call_ (ld_blt I hg2 hm2 PyProof.Rows.boot_zip (PyProof.Rows.callWith_type1 (thn (ha.run pos2 pins s σ H _ I h) fun us s1 ⟨vs, H1, I1, r1, q1⟩ => ?_) hs hpl))
  obtain ⟨a, b, xs, ys, ex, h1, h2, q⟩ := q1
  subst ex
  cases r1 with
  | cons r rr =>
    cases rr with
    | cons r' rr =>
      cases rr
      cases r
      cases r'
      obtain ⟨b1, its, v1, s1', z1⟩ := sq_of rfl I1 h1
      obtain ⟨b2, its2, v2, s2', z2⟩ := sq_of rfl I1 h2
      refine zip_begins2 (sq_begins b1 a its.toArray) (sq_begins b2 b its2.toArray) s1' s2' fun hA hz hTI hTO i1 i2 sz kA => ?_
      refine args_nil ?_
      have l1 := v1.length
      have l2 := v2.length
      refine call_list_zip (s := { s1 with heap := hA }) (n := s1.heap.objs.size) (b1 := b1) (b2 := b2) (xs := its.toArray) (ys := its2.toArray) (I1.ok.hd hc) (s1'.at fun o e => kA _ _ e) (s2'.at fun o e => kA _ _ e) s1'.lt s2'.lt hz hTI hTO i1 i2 sz (by rw [List.size_toArray]; omega) fun h' tk acc c' kk hL g => ?_
      have keep : ∀ b u, s1.heap.get? b = some u → h'.get? b = some u := fun b u e => kk b u (Heap.lt_size e) (kA b u e)
      obtain ⟨g1, g2, g3⟩ := g
      have g1 : acc.size = min xs.length ys.length := by rw [g1, List.size_toArray, List.size_toArray, l1, l2]
      -- the addresses
      have tv : ∀ (j : Nat) (hj : j < acc.size), ∃ t, acc[j] = .ref t := fun j hj => by
        obtain ⟨t, _, _, e, _⟩ := g2 j acc[j] (Array.getElem?_eq_getElem hj)
        exact ⟨t, e⟩
      have tl : ∃ ts : List Addr, acc = (ts.map Value.ref).toArray := by
        refine ⟨acc.toList.map fun v => match v with | .ref t => t | _ => 0, ?_⟩
        apply Array.ext
        · simp
        · intro j h3 h4
          obtain ⟨t, e⟩ := tv j h3
          simp [e]
      obtain ⟨ts, rfl⟩ := tl
      have at_ : ∀ (j : Nat) (t : Addr), ts[j]? = some t → (ts.map Value.ref).toArray[j]? = some (.ref t) := fun j t e => by simp [e]
      have tlen : ts.length = min xs.length ys.length := by rw [← g1]; simp
      have tnd : ts.Nodup := by
        refine List.pairwise_iff_getElem.mpr fun j j' hj hj' hlt e => ?_
        have e1 : ts[j]? = some ts[j] := List.getElem?_eq_getElem hj
        have e2 : ts[j']? = some ts[j] := by rw [List.getElem?_eq_getElem hj', e]
        have := g3 j j' _ (at_ j _ e1) (at_ j' _ e2)
        omega
      have told : ∀ t ∈ ts, s1.heap.objs.size + 6 ≤ t := fun t ht => by
        obtain ⟨j, hj⟩ := List.getElem?_of_mem ht
        obtain ⟨t', _, _, e, _, _, _, z⟩ := g2 j _ (at_ j t hj)
        cases e
        exact z
      have tH : ∀ t ∈ ts, H1 t = none := fun t ht => I1.hok.fresh (Nat.le_trans (Nat.le_add_right _ 6) (told t ht))
      have pH : H1 (s1.heap.objs.size + 5) = none := I1.hok.fresh (Nat.le_add_right _ 5)
      have pn : s1.heap.objs.size + 5 ∉ ts := fun hm => absurd (told _ hm) (by omega)
      obtain ⟨un, ok⟩ := lays (X := X) (H := H1) (s := s1) (h' := h') ts xs ys H1 (Un.kept keep) (I1.hok.kept keep) (fun t ht => ⟨tH t ht, Nat.le_trans (Nat.le_add_right _ 6) (told t ht)⟩) tnd fun j t x y e1 e2 e3 => by
        obtain ⟨t', u, v, e, ht, p1, p2, _⟩ := g2 j _ (at_ j t e1)
        cases e
        obtain ⟨u', e4, ru⟩ := v1.get e2
        obtain ⟨v', e5, rv⟩ := v2.get e3
        have p1' : its[j]? = some u := by simpa using p1
        have p2' : its2[j]? = some v := by simpa using p2
        rw [e4] at p1'
        rw [e5] at p2'
        cases p1'
        cases p2'
        exact ⟨u, v, ru, rv, ht⟩
      have I2 : Inv X pins σ (lay H1 ts xs ys) { s1 with heap := h', toks := tk } := I1.un un ok
      have lL : lay H1 ts xs ys (s1.heap.objs.size + 5) = none := by rw [lay_ne ts xs ys H1 _ pn]; exact pH
      have rL : Vals (ts.map V.ref) (ts.map Value.ref) := by
        have gen : ∀ l : List Addr, Vals (l.map V.ref) (l.map Value.ref) := fun l => by
          induction l with
          | nil => exact .nil
          | cons t l ih => exact .cons rfl ih
        exact gen ts
      have un3 : Un X.fs [] H1 (upd (lay H1 ts xs ys) (s1.heap.objs.size + 5) (.lst (ts.map V.ref))) s1.heap h' := {
        keep := un.keep
        slot := un.slot
        free := fun b o e n hx => by
          rw [upd_ne (Nat.ne_of_lt (Nat.lt_of_lt_of_le (Heap.lt_size e) (Nat.le_add_right _ 5)))]
          exact un.free b o e n hx
        there := un.there
        tups := fun b zs e => by
          have := un.tups b zs e
          rw [upd_ne (ne_of_none this lL)]
          exact this
        frzs := fun b o w e => by
          have := un.frzs b o w e
          rw [upd_ne (ne_of_none this lL)]
          exact this
        tbls := fun b ps e => by
          obtain ⟨more, this⟩ := un.tbls b ps e
          exact ⟨more, by rw [upd_ne (ne_of_none this lL)]; exact this⟩ }
      have ok3 : HOk X.prog X.w (upd (lay H1 ts xs ys) (s1.heap.objs.size + 5) (.lst (ts.map V.ref))) h' := by
        intro b w e
        by_cases hb : b = s1.heap.objs.size + 5
        · subst hb
          rw [upd_same] at e
          cases e
          refine ⟨by rw [List.length_map, tlen]; omega, ts.map Value.ref, _, rL, hL⟩
        · rw [upd_ne hb] at e
          exact (ok b w e).stay (fun c v _ q => q) (fun c q => by rw [upd_ne (ne_of_none q lL)]; exact q) fun c zs q => by rw [upd_ne (ne_of_none q lL)]; exact q
      exact ⟨.ref (s1.heap.objs.size + 5), _, I1.un un3 ok3, rfl, q ts _ tlen tnd tH pH pn⟩
end ZP
set_option Elab.async false
set_option linter.all false
set_option maxRecDepth 100000
set_option maxHeartbeats 4000000
namespace ZP
open PySem PySem.Spec PyProof.Rows L2
open PySem.Sem (wp)
def SqX (K : PySem.W.Frag) (b : Bool) (H : Hp) (a : Addr) (xs : List V) : Prop := match b with
  | true => SqL K H a xs
  | false => SqT K H a xs
def ItzX (K : PySem.W.Frag) (b1 b2 : Bool) (a b : Addr) : It :=
  ⟨fun i H => ∃ (xs ys : List V) (x y : V), SqX K b1 H a xs ∧ SqX K b2 H b ys ∧ xs[i]? = some x ∧ ys[i]? = some y,
    fun i H v H' => ∃ T x y, v = .ref T ∧ H T = none ∧ H' = upd H T (.tup [x, y]) ∧ (∀ xs, SqX K b1 H a xs → xs[i]? = some x) ∧ ∀ ys, SqX K b2 H b ys → ys[i]? = some y,
    fun i H => ∃ xs ys : List V, SqX K b1 H a xs ∧ SqX K b2 H b ys ∧ i ≤ xs.length ∧ i ≤ ys.length ∧ (i = xs.length ∨ i = ys.length)⟩
section
variable {X : Cx} {pins : List (Addr × Obj)} {σ : L2.St} {H : Hp} {s : Shared}
theorem sqx_of {b : Bool} (I : Inv X pins σ H s) {a : Addr} {xs : List V} (h : SqX X.K b H a xs) : ∃ its : List Value, Vals xs its ∧ SqB b s.heap a its.toArray ∧ xs.length ≤ sizeLine := by
  cases b
  · obtain ⟨its, r, p, z⟩ := I.tuple h
    exact ⟨its, r, p, z⟩
  · obtain ⟨its, r, p, z⟩ := I.list h
    exact ⟨its, r, p.isList, z⟩
theorem sqx_inj {b : Bool} (I : Inv X pins σ H s) {a : Addr} {xs ys : List V} (h : SqX X.K b H a xs) (h' : SqX X.K b H a ys) : xs = ys := by
  cases b
  · exact I.tuple_inj h h'
  · exact I.list_inj h h'
end
theorem sqi_ne {b b' : Bool} {h : Heap} {it a c : Addr} {i : Nat} {its : Array Value} (x : SqI b h it a i) (y : SqB b' h c its) : c ≠ it := fun e => by
  subst e
  have h1 : ∃ o vs, h.get? c = some o ∧ o.data = .fields vs := by
    cases b
    · obtain ⟨o, e, _, d⟩ := x; exact ⟨o, _, e, d⟩
    · obtain ⟨o, e, _, d⟩ := x; exact ⟨o, _, e, d⟩
  have h2 : ∃ o n, h.get? c = some o ∧ o.data = .seq its n := by
    cases b'
    · obtain ⟨o, e, _, n, d⟩ := y; exact ⟨o, n, e, d⟩
    · obtain ⟨o, e, _, n, d⟩ := y; exact ⟨o, n, e, d⟩
  obtain ⟨o, vs, e1, d1⟩ := h1
  obtain ⟨o', n, e2, d2⟩ := h2
  rw [e1] at e2
  cases e2
  rw [d1] at d2
  cases d2
theorem turn_zipX {P : Program} {w : World} {K : PySem.W.Frag} {elts : List Expr} {kk : Nat} {tpos : Pos} {b1 b2 : Bool} {a b z TI TO i1 i2 : Addr} (S : ZipSep2 z TI TO i1 i2 [i1, a] [i2, b]) :
    Turn P w K (.Tuple elts kk tpos) (ItzX K b1 b2 a b) [z, TI, TO, i1, i2] z (fun i h => IsZip h z TI TO .none ∧ IsTupOf2 h TI (.ref i1) (.ref i2) ∧ (∃ x y, IsTupOf2 h TO x y) ∧ SqI b1 h i1 a i ∧ SqI b2 h i2 b i) where
  mem := by simp
  obj := fun i h st c hc => by
    obtain ⟨hz, hTI, ⟨x, y, hTO⟩, h1, h2⟩ := st
    have e' : c = z ∨ c = TI ∨ c = TO ∨ c = i1 ∨ c = i2 := by simpa using hc
    rcases e' with q | q | q | q | q
    · rw [q]; exact ⟨_, hz, fun v q => nomatch q⟩
    · rw [q]; exact ⟨_, hTI, fun v q => nomatch q⟩
    · rw [q]; exact ⟨_, hTO, fun v q => nomatch q⟩
    · rw [q]; exact h1.ob
    · rw [q]; exact h2.ob
  keep := fun i h h' st k => by
    obtain ⟨hz, hTI, ⟨x, y, hTO⟩, h1, h2⟩ := st
    exact ⟨k z (by simp) _ hz, k TI (by simp) _ hTI, ⟨x, y, k TO (by simp) _ hTO⟩, h1.at fun o q => k i1 (by simp) o q, h2.at fun o q => k i2 (by simp) o q⟩
  item := by
    intro X hP hw hK hc i pins s σ H E I hf st hg
    subst hP hw hK
    obtain ⟨hz, hTI, ⟨x0, y0, hTO⟩, h1, h2⟩ := st
    obtain ⟨xs, ys, x, y, hqx, hqy, hx, hy⟩ := hg
    obtain ⟨its, rv, p, _⟩ := sqx_of I hqx
    obtain ⟨its2, rv2, p2, _⟩ := sqx_of I hqy
    obtain ⟨u, hu, ru⟩ := rv.get hx
    obtain ⟨u2, hu2, ru2⟩ := rv2.get hy
    have hzl : z < s.heap.objs.size := Heap.lt_size hz
    have ne1 : a ≠ i1 := sqi_ne h1 p
    have ne2 : b ≠ i2 := sqi_ne h2 p2
    have d1 := sq_draws (prog := X.prog) (w := X.w) (A := X.A.in1) (I.ok.hd hc) b1 i1 a ne1 its.toArray
    have d2 := sq_draws (prog := X.prog) (w := X.w) (A := X.A.in1) (I.ok.hd hc) b2 i2 b ne2 its2.toArray
    refine wpAny_pyNext_zipD2_item S d1 d2 hz hTI hTO ⟨h1, p⟩ ⟨h2, p2⟩ (by have := (List.getElem?_eq_some_iff.mp hu).1; simpa using this) (by have := (List.getElem?_eq_some_iff.mp hu2).1; simpa using this) fun x1 x2 h' tk p1 p2' z' TO' s1' s2' hT hsz hk => ?_
    have e1 : x1 = u := by
      have := (show its.toArray[i]? = some x1 from p1)
      rw [List.getElem?_toArray, hu] at this
      exact (Option.some.inj this).symm
    have e2 : x2 = u2 := by
      have := (show its2.toArray[i]? = some x2 from p2')
      rw [List.getElem?_toArray, hu2] at this
      exact (Option.some.inj this).symm
    subst e1 e2
    refine ⟨_, rfl, wpAny_letOwnedTupleGo_zip (s := { s with heap := h', toks := tk }) z' fun h'' z'' sb => ?_⟩
    have hT2 : h''.get? s.heap.objs.size = some { cls := .type "tuple", data := .seq #[x1, x2] } := (sb.2 _ (Nat.ne_of_gt hzl)).trans hT
    have new : ObjOk X.prog X.w (upd H s.heap.objs.size (.tup [x, y])) h'' s.heap.objs.size (.tup [x, y]) :=
      ⟨by show 2 ≤ sizeLine; decide, [x1, x2], .cons ru (.cons ru2 .nil), ⟨_, hT2, rfl, _, rfl⟩⟩
    have I1 : Inv X pins σ (upd H s.heap.objs.size (.tup [x, y])) { s with heap := h'', toks := tk } :=
      I.turnedNew (t' := tk) (ch := [z, TI, TO, i1, i2]) (fun c o hb q => (sb.2 c (fun q' => hb (by simp [q']))).trans (hk c o (fun q' => hb (by simp [q'])) (fun q' => hb (by simp [q'])) (fun q' => hb (by simp [q'])) (fun q' => hb (by simp [q'])) q)) hf (Nat.le_refl _) new
    refine ⟨.ref s.heap.objs.size, _, I1, rfl, ⟨_, x, y, rfl, I.hok.fresh (Nat.le_refl _), rfl, fun l hl => by rw [sqx_inj I hl hqx]; exact hx, fun l hl => by rw [sqx_inj I hl hqy]; exact hy⟩, ⟨z'', ?_, ⟨x1, x2, ?_⟩, ?_, ?_⟩, fun c hcm => ?_⟩
    · exact (sb.2 _ S.TIz).trans (hk _ _ S.TIz S.TITO S.TIi1 S.TIi2 hTI)
    · exact (sb.2 _ S.TOz).trans TO'
    · exact s1'.1.at fun o q => (sb.2 _ (Ne.symm S.zi1)).trans q
    · exact s2'.1.at fun o q => (sb.2 _ (Ne.symm S.zi2)).trans q
    · have hlt : c < s.heap.objs.size := by
        have e' : c = z ∨ c = TI ∨ c = TO ∨ c = i1 ∨ c = i2 := by simpa using hcm
        rcases e' with q | q | q | q | q
        · rw [q]; exact hzl
        · rw [q]; exact Heap.lt_size hTI
        · rw [q]; exact Heap.lt_size hTO
        · rw [q]; obtain ⟨_, e1, _⟩ := h1.ob; exact Heap.lt_size e1
        · rw [q]; obtain ⟨_, e2, _⟩ := h2.ob; exact Heap.lt_size e2
      rw [upd_ne (Nat.ne_of_lt hlt)]
      exact (hf c hcm).1
  done := by
    intro X hP hw hK hc i pins s σ H E I hf st hg
    subst hP hw hK
    obtain ⟨hz, hTI, ⟨x0, y0, hTO⟩, h1, h2⟩ := st
    obtain ⟨xs, ys, hqx, hqy, hend⟩ := hg
    obtain ⟨its, rv, p, _⟩ := sqx_of I hqx
    obtain ⟨its2, rv2, p2, _⟩ := sqx_of I hqy
    have l1 := rv.length
    have l2 := rv2.length
    have d1 := sq_draws (prog := X.prog) (w := X.w) (A := X.A.in1) (I.ok.hd hc) b1 i1 a (sqi_ne h1 p) its.toArray
    have d2 := sq_draws (prog := X.prog) (w := X.w) (A := X.A.in1) (I.ok.hd hc) b2 i2 b (sqi_ne h2 p2) its2.toArray
    obtain ⟨e1, e2, e3⟩ := hend
    refine wpAny_pyNext_zipD2_end S d1 d2 hz hTI hTO ⟨h1, p⟩ ⟨h2, p2⟩ (by rw [List.size_toArray]; omega) (by rw [List.size_toArray]; omega) (by rw [List.size_toArray, List.size_toArray]; omega) fun h' tk hk => ⟨rfl, ?_⟩
    exact I.turnedL (t' := tk) (ch := [z, TI, TO, i1, i2]) (fun c o hb q =>
      hk c o (fun q' => hb (by simp [q'])) (fun q' => hb (by simp [q'])) (fun q' => hb (by simp [q'])) (fun q' => hb (by simp [q'])) q) hf
  self := fun A i s Q E st h => wpAny_pyIter_zip st.1 h
def iZipX (K : PySem.W.Frag) (ta : TA) : TI := fun σ H R => ta σ H fun vs H1 => ∃ a b xs ys, vs = [.ref a, .ref b] ∧ ∃ b1 b2, SqX K b1 H1 a xs ∧ SqX K b2 H1 b ys ∧ R (ItzX K b1 b2 a b) H1
theorem pi_zipX {X : Cx} {e e2 : Expr} {ta : TA} {p pos tpos : Pos} {elts : List Expr} {kk : Nat} (hg : Gl X "zip") (hm : X.mg "zip" = none) (ha : PA X [e, e2] ta)
    (hs : starEach [e, e2] X.env = (false, eval e X.env) :: starEach [e2] X.env) (hpl : (backTo pos (starEach [e2] X.env)).any (·.1) = false) :
    PI X (.Tuple elts kk tpos) (.Call (.Name "zip" p) [e, e2] [] pos) (iZipX X.K ta) := by
  refine ⟨fun pins s σ H R I h => ?_⟩
  refine Call_ (ld_blt I hg hm PyProof.Rows.boot_zip (PyProof.Rows.callWith_type1 (thn (ha.run pos pins s σ H _ I h) fun us s1 ⟨vs, H1, I1, r1, q1⟩ => ?_) hs hpl))
  obtain ⟨a, b, xs, ys, ex, b1, b2, hqx, hqy, q⟩ := q1
  subst ex
  cases r1 with
  | cons r rr =>
    cases rr with
    | cons r' rr =>
      cases rr
      cases r
      cases r'
      have fresh5 : ∀ c, c ∈ [s1.heap.objs.size + 4, s1.heap.objs.size + 2, s1.heap.objs.size + 3, s1.heap.objs.size, s1.heap.objs.size + 1] → FpOk X pins H1 c := fun c hcm => by
        have e' : c = s1.heap.objs.size + 4 ∨ c = s1.heap.objs.size + 2 ∨ c = s1.heap.objs.size + 3 ∨ c = s1.heap.objs.size ∨ c = s1.heap.objs.size + 1 := by simpa using hcm
        have hle : s1.heap.objs.size ≤ c := by
          rcases e' with z | z | z | z | z
          · rw [z]; exact Nat.le_add_right _ _
          · rw [z]; exact Nat.le_add_right _ _
          · rw [z]; exact Nat.le_add_right _ _
          · rw [z]; exact Nat.le_refl _
          · rw [z]; exact Nat.le_add_right _ _
        exact I1.fpOk hle (I1.hok.fresh hle)
      obtain ⟨its, rv, p1, _⟩ := sqx_of I1 hqx
      obtain ⟨its2, rv2, p2, _⟩ := sqx_of I1 hqy
      refine zip_begins2 (sq_begins b1 a its.toArray) (sq_begins b2 b its2.toArray) p1 p2 fun h' hz hTI hTO i1 i2 sz hk => wpAny_pyIter_zip hz ?_
      have I2 : Inv X pins σ H1 { s1 with heap := h' } := I1.kept (t' := s1.toks) hk
      exact ⟨s1.heap.objs.size + 4, [s1.heap.objs.size + 4, s1.heap.objs.size + 2, s1.heap.objs.size + 3, s1.heap.objs.size, s1.heap.objs.size + 1], _, _, H1, rfl, I2, turn_zipX (sep_new s1.heap.objs.size a b p1.lt p2.lt), ⟨hz, hTI, ⟨_, _, hTO⟩, sq_new i1, sq_new i2⟩, fresh5, q⟩
end ZP
set_option Elab.async false
set_option linter.all false
set_option maxRecDepth 100000
set_option maxHeartbeats 4000000
namespace ZP
open PySem PySem.Spec PyProof.Rows L2
open PySem.Sem (wp)
/-- d.get(k), d.get(k, y), d a written dict at d -/
def rKG (K : PySem.W.Frag) (d : Addr) : List V → Hp → VK → Prop := fun xs H Q =>
  (∃ z r v, xs = [.str z] ∧ PySem.W.nsIn K d z = some r ∧ RelV v (r.getD .none) ∧ Q v H) ∨
  (∃ z y r, xs = [.str z, y] ∧ PySem.W.nsIn K d z = some r ∧ ∃ v, (∀ u, r = some u → RelV v u) ∧ (r = none → v = y) ∧ Q v H)
theorem pe_kget {X : Cx} {d : Addr} {es : Array DictEntry} {n : Nat} {x : Str} {p apos cpos : Pos} {e : Expr} {as : List Expr} {t : TA} (D : KDict X.K X.w d es n) (hg : Gl X x) (hm : X.mg x = some (.ref d)) (hd : (x == ("__debug__" : Str)) = false) (ha : PA X (e :: as) t)
    (hfew : ((backTo cpos (starEach (e :: as) X.env)).all (fun x => !x.1) && (backToKw cpos (keywordEach [] X.env)).all (fun x => x.1.isSome)
      && decide ((e :: as).length + ([] : List Keyword).length + (if ([] : List Keyword).isEmpty then 0 else 1) < 30)) = true)
    (hline : (apos.endLine == cpos.line) = true) (hs : starEach (e :: as) X.env = (false, eval e X.env) :: starEach as X.env) (hplain : (backTo cpos (starEach as X.env)).any (·.1) = false) :
    PE X (.Call (.Attribute (.Name x p) "get" apos) (e :: as) [] cpos) (fun σ H Q => t σ H fun xs H1 => rKG X.K d xs H1 Q) := by
  refine ⟨fun pins s σ H Q I h => ?_⟩
  have low := D.low
  refine wpAny_Call_method_late rfl hfew hline rfl (ld_glob I hg hm ?_ hd)
  refine ⟨"dict", "dict.get", PySem.F.plainAttrs_dict, PySem.F.slot_dict_get, PySem.F.type_dict_get, kd_type D I, fun a e => ?_, ?_⟩
  · cases e
    exact ⟨_, I.kIn d _ D.at_, rfl⟩
  have hA := ha.run cpos pins s σ H _ I h
  rw [hs] at hA ⊢
  refine Calls.callWith_builtin (by show (false || (backTo cpos (starEach as X.env)).any (·.1)) = false; rw [hplain] <;> rfl) (Calls.evalArgs_plain ?_)
  refine thn hA fun us s2 ⟨vs, H2, I2, r2, q2⟩ => ?_
  have mp := PySem.W.mapOf_K (prog := X.prog) (w := X.w) I2.kIn D.at_ D.lit
  rcases q2 with ⟨z, r, v, rfl, e1, rv, q⟩ | ⟨z, y, r, rfl, e1, v, h1, h2, q⟩
  · obtain ⟨u, rfl, ru⟩ := Vals.one r2
    obtain ⟨t, rfl⟩ := ru
    have f := PySem.W.find_K D.at_ e1
    refine call_meetsIn PySem.F.slot_dict_get mp.typeIs PySem.F.entry_dict_get (PySem.F.args_dict_get_2 _ _) (meets_dict_get (strKind X.prog X.w) d (PySem.strKind_is X.prog X.w z t) low) ⟨_, mp, ?_⟩
    rw [f]
    exact ⟨v, H2, I2.tok _, rv, q⟩
  · cases r2 with
    | cons ra rb =>
      obtain ⟨u2, rfl, ru2⟩ := Vals.one rb
      obtain ⟨t, rfl⟩ := ra
      have f := PySem.W.find_K D.at_ e1
      refine call_meetsIn PySem.F.slot_dict_get mp.typeIs PySem.F.entry_dict_get (PySem.F.args_dict_get_3 _ _ _) (meets_dict_get_default (strKind X.prog X.w) d (PySem.strKind_is X.prog X.w z t) low u2) ⟨_, mp, ?_⟩
      rw [f]
      refine ⟨v, H2, I2.tok _, ?_, q⟩
      cases r with
      | none =>
        rw [h2 rfl]
        exact ru2
      | some u => exact h1 u rfl
end ZP
set_option Elab.async false
set_option linter.all false
set_option maxRecDepth 100000
set_option maxHeartbeats 4000000
/-! list(d.values()), the keys of d tuples -/
namespace ZV
open PySem PySem.Spec PySem.W PyProof.Rows L2
def tValsT (te : TE) : TE := fun σ H Q => te σ H fun x H1 => ∃ (d : Addr) (kvs : List (List Key × V)), x = .ref d ∧ H1 d = some (.dT kvs) ∧ ∀ p, H1 p = none → Q (.ref p) (upd H1 p (.lst (kvs.map (·.2))))
theorem pair_vals {H : Hp} : ∀ {kvs : List (List Key × V)} {xs : List (List Key × Addr × Value)}, Paired (fun (p : List Key × V) (q : List Key × Addr × Value) => p.1 = q.1 ∧ H q.2.1 = some (.tup (p.1.map kV)) ∧ RelV p.2 q.2.2) kvs xs → Vals (kvs.map (·.2)) (xs.map (·.2.2)) := by
  intro kvs xs h
  induction h with
  | nil => exact .nil
  | cons h _ ih => exact .cons h.2.2 ih
section
variable {X : Cx} {e : Expr} {te : TE} {p ap cp pos : Pos}
theorem pe_valsT (hc : X.calm = true) (he : PE X e te) (hg : Gl X "list") (hm : X.mg "list" = none) (hbase : attributeBase e "values" X.env (eval e X.env) = eval e X.env) (hl : (ap.endLine == cp.line) = true) :
    PE X (.Call (.Name "list" p) [.Call (.Attribute e "values" ap) [] [] cp] [] pos) (tValsT te) := by
  have hv : bootBuiltins "list" = some (.type "list") := by decide +kernel
  have hs : starEach [.Call (.Attribute e "values" ap) [] [] cp] X.env = (false, eval (.Call (.Attribute e "values" ap) [] [] cp) X.env) :: starEach [] X.env := rfl
  constructor
  intro pins s σ H Q I hq
  refine wpAny_Call_Name_kw (ld_blt I hg hm hv (PyProof.Rows.callWith_type1 ?_ hs rfl))
  rw [hs]
  refine Calls.spliced_cons (wpAny_Call_method (T := "dict") (id := "dict.values") hbase rfl hl F.plainAttrs_dict F.slot_dict_values F.type_dict_values (thn (he.run pins s σ H _ I hq) fun u s1 hh => ?_))
  obtain ⟨x, H1, I1, rx, d, kvs, rfl, hd, q⟩ := hh
  cases rx
  obtain ⟨z, hs0, xs, pr, o, es, ep, ho, hx, hdat, hes, _⟩ := (show ObjOk X.prog X.w H1 s1.heap d (.dT kvs) from I1.hok d _ hd)
  have raw : s1.heap.DictRaw d es ep := ⟨o, ho, hx, hdat⟩
  have I2 : Inv X pins σ H1 { s1 with heap := s1.heap.push { cls := .type "dict_values", data := .fields #[.ref d] } } := I1.kept (t' := s1.toks) fun b ob q => Heap.get?_push_of_some _ q
  have raw2 : (s1.heap.push { cls := .type "dict_values", data := .fields #[.ref d] }).DictRaw d es ep := ⟨o, Heap.get?_push_of_some _ ho, hx, hdat⟩
  have l1 : kvs.length = xs.length := Paired.length pr
  have l2 : es.size = xs.length := by rw [← Array.length_toList, hes, List.length_map]
  refine ⟨raw.typeIs, fun b eb => by cases eb; exact ⟨o, ho, hx.2.1⟩, ?_⟩
  refine method_meetsIn F.slot_dict_values F.entry_dict_values rfl (PySem.evalArgs_none ⟨rfl, raw.typeIs, F.args_dict_values_1 _, _, meets_dict_values_raw d hs0, ⟨es, ep, raw⟩, ?_⟩)
  refine Calls.spliced_nil ?_
  refine kdl_call (KdlSrc.rawValues (es := es) (ep := ep)) (I1.ok.hd hc) ⟨⟨_, Heap.get?_push_size _ rfl, rfl, rfl⟩, raw2⟩ (by omega) fun h' tk acc c hk hS it => ?_
  have ea : acc.toList = xs.map (·.2.2) := by
    apply List.ext_getElem?
    intro j
    have hl : acc.toList.length = xs.length := by rw [Array.length_toList, it.1]; exact l2
    cases hj : acc.toList[j]? with
    | none =>
      have h1 := List.getElem?_eq_none_iff.mp hj
      rw [List.getElem?_eq_none (by rw [List.length_map]; omega)]
    | some v =>
      obtain ⟨hi, hv2⟩ := it.2 j v (by rw [← Array.getElem?_toList]; exact hj)
      have qe : es.toList[j]? = some es[j] := by rw [Array.getElem?_toList]; exact Array.getElem?_eq_getElem hi
      rw [hes, List.getElem?_map] at qe
      rw [List.getElem?_map]
      cases hb : xs[j]? with
      | none => rw [hb] at qe; cases qe
      | some b =>
        rw [hb] at qe
        have e2 := Option.some.inj qe
        rw [hv2, ← e2]
        rfl
  have rv : Vals (kvs.map (·.2)) acc.toList := by rw [ea]; exact pair_vals pr
  refine ⟨.ref _, _, I2.laid (t' := tk) (o := .lst (kvs.map (·.2))) hk (Nat.le_refl _) ?_, rfl, q _ (I2.hok.fresh (Nat.le_refl _))⟩
  exact ⟨by rw [List.length_map]; omega, acc.toList, c, rv, by rw [Array.toArray_toList]; exact hS⟩
end
end ZV
set_option Elab.async false
set_option linter.all false
set_option maxRecDepth 100000
set_option maxHeartbeats 4000000
/-! an own error of one field, its __init__ says super().__init__(f'..') and stores the field -/
namespace Xp
open PySem PySem.W PySem.Calls PyProof.Rows PySem.HandSPX
/-- the body of the __init__ -/
def xBody (J : Expr) (fld : Str) (p0 p1 p2 p3 p4 q1 q2 q3 q4 : Pos) : List Stmt :=
  [.Expr (.Call (.Attribute (.Call (.Name "super" p0) [] [] p1) "__init__" p2) [J] [] p3) p4, .Assign [.Attribute (.Name "self" q1) fld q2] (.Name fld q3) q4]
/-- J gives a text where fld is v -/
def JOk (prog : Program) (w : World) (J : Expr) (fld : Str) (env : Env) (v : Value) : Prop :=
  ∀ (A : Around) (E : Value → Shared → Prop) (s : Shared) (m : Str → Option Value), s.heap.Ns env.locals m → m fld = some v → wpAny (model prog w) A (eval J env) (fun u s' => (∃ t tk, u = .str t tk) ∧ ∃ tk, s' = { s with toks := tk }) E s
/-- what the written part says of the class C and of its __init__ at fI -/
structure XTxt (prog : Program) (K : Frag) (C fI cc cda : Addr) (fld : Str) (qual : Str) (params : Arguments) (body : List Stmt) (scope : Scope) : Prop where
  cls : ∃ nm q N bs bm sn sub ab col dd k0 k1 k2 k3 k5, K.lookup C = some (excClassObj nm q C N bs bm true sn sub ab col dd k0 k1 k2 k3 k5 "ValueError.__new__") ∧ refsVE bm = true
  sa : findIn K (.ref C) "__setattr__" = some (some (.builtin "object.__setattr__"))
  noF : findIn K (.ref C) fld = some none
  iC : findIn K (.ref C) "__init__" = some (some (.ref fI))
  tI : typeIn K (.ref fI) = some (.type "function")
  fn : ∃ (oc : Value) (od : Option Addr) (kV doc pm : Value) (an : Option Addr) (ct : Value) (osl : Array (Option Value)), K.lookup fI = some ⟨oc, od, .func (ksFn "__init__" qual params body scope .none kV doc pm an (.ref cda) ct cc), osl⟩
  code : codeIn K (.ref cda) qual = true
  cell : ∃ cl cld csl, K.lookup cc = some ⟨cl, cld, .cell (some (.ref C)), csl⟩
  file : ∃ ccl cdd ccs vs f tf, K.lookup cda = some ⟨ccl, cdd, .fields vs, ccs⟩ ∧ vs[2]? = some (.str f tf) ∧ ((prog.main.file : Str) == f) = true
  sup : ks_superIn K C C "__init__" = some (some (.builtin "ValueError.__init__"))
  subB : subIn K (.ref C) (.type "ValueError") = some true
  slf : mroIn K C (.ref C) = some true
  st : nsIn K cStatics "thirdparty.any" = some none
  top : (prog.main.scope.names.lookup ("super" : Str)).isSome = false
/-- what the __init__ leaves of a fresh exception at x -/
structure XEnd (h h' : Heap) (x C dx t1 : Addr) (fld : Str) (v : Value) : Prop where
  keep : ∀ b o, b ≠ x → h.get? b = some o → h'.get? b = some o
  obj : h'.get? x = some { cls := .ref C, dict := some dx, data := .fields #[.ref t1, .none, .none, .none, .bool false, .none] }
  dbig : h.objs.size ≤ dx
  dne : dx ≠ x
  ns : h'.Ns1 dx (fun y => if y = fld then some v else none)
section
variable {prog : Program} {w : World} {A : Around} {E : Value → Shared → Prop} {R : Result → Shared → Prop} {s : Shared} {K : Frag} {C fI cc cda : Addr} {fld qual : Str} {params : Arguments} {body : List Stmt} {scope : Scope}
theorem ns_but {h h' : Heap} {L x : Addr} {m : Str → Option Value} (hn : h.Ns L m) (hx : L ≠ x) (k : ∀ b o, b ≠ x → h.get? b = some o → h'.get? b = some o) : h'.Ns L m := by
  obtain ⟨o, es, ep, e, r⟩ := hn
  exact ⟨o, es, ep, k _ _ hx e, r⟩
theorem kin_but {h h' : Heap} {x : Addr} (X : K.In h) (hx : K.lookup x = none) (k : ∀ b o, b ≠ x → h.get? b = some o → h'.get? b = some o) : K.In h' := fun a o e =>
  k a o (fun z => by rw [z, hx] at e; cases e) (X a o e)
/-- the bound ValueError.__init__ called -/
theorem x_call {u x t : Addr} {rest : List Value} {Q : Value → Shared → Prop} {h : Heap} {g : Array GenState} {d : Drawn} {tk : Nat} {os : OsState} {nm q : Str} {N : Addr} {bs bm : List Value} {sn : List Str} {sub : List Value} {ab : Bool} {col : Option Bool} {dd : Option Addr} {k0 k1 k2 k3 k5 : Option Value}
    (hC : h.get? C = some (excClassObj nm q C N bs bm true sn sub ab col dd k0 k1 k2 k3 k5 "ValueError.__new__")) (hu : h.get? u = some (kxs_mw "ValueError.__init__" x)) (he : h.get? x = some (HandSPX.excO C t)) (hz : rest.length ≤ sizeLine)
    (fin : ∀ h' t', (∀ b o, b ≠ x → h.get? b = some o → h'.get? b = some o) → h'.get? x = some (HandSPX.excO C t') → Q .none ⟨h', g, d, tk, os⟩) :
    wpAny (model prog w) A (call (.ref u) rest) Q E ⟨h, g, d, tk, os⟩ := by
  have FB := F.excBase_ValueError
  refine wpAny_call (codeAny_of_tree ?_)
  show wpAny _ A.in1 (callAny (.ref u) ⟨rest, []⟩) _ _ _
  simp only [callAny]
  refine wpAny_bind (wpAny_load hu ?_)
  have two : (Value.type "method-wrapper" == Value.type "method" || Value.type "method-wrapper" == Value.type "builtin_function_or_method" || Value.type "method-wrapper" == Value.type "method-wrapper") = true := by decide
  simp only [kxs_mw, two, if_true]
  refine KFB.if_so (by decide) ?_
  refine wpAny_bind (check_bound_init FB.toExcCallFacts hC he rfl ?_)
  refine wpAny_bind (wpAny_pure (wpAny_pure ?_))
  refine ⟨plainId_quiet FB.init.plain _, codeAny_builtin FB.initEntry ?_⟩
  exact exc_init_tree (cls := .ref C) (t0 := t) (dv := none) (c2 := .none) (c3 := .none) (b4 := .bool false) he hz fun h' k e' _ => fin h' h.objs.size k e'
end
end Xp
set_option Elab.async false
set_option linter.all false
set_option maxRecDepth 100000
set_option maxHeartbeats 4000000
namespace Xp
open PySem PySem.W PySem.Calls PyProof.Rows PySem.HandSPX
section
variable {prog : Program} {w : World} {A : Around} {E : Value → Shared → Prop} {R : Result → Shared → Prop} {s : Shared} {K : Frag} {C fI cc cda : Addr} {fld qual : Str} {params : Arguments} {body : List Stmt} {scope : Scope}
theorem x_init {J : Expr} {p0 p1 p2 p3 p4 q1 q2 q3 q4 : Pos} {mg mb : Str → Option Value} (T : XTxt prog K C fI cc cda fld qual params (xBody J fld p0 p1 p2 p3 p4 q1 q2 q3 q4) scope)
    (hpar : ∀ kV doc pm an ct (v : Value) (x : Addr), bindArgs (ksFn "__init__" qual params (xBody J fld p0 p1 p2 p3 p4 q1 q2 q3 q4) scope .none kV doc pm an (.ref cda) ct cc) ⟨[.ref x, v], []⟩ = pure [(Str.ofString "self", .ref x), (fld, v)])
    (hhead : (params.posonlyargs ++ params.args).head?.map (·.arg) = some (Str.ofString "self")) (hkind : scope.kind = .function) (hco : scope.isCoroutine = false) (hgen : scope.isGenerator = false)
    (hcell : ∀ x ∈ scope.names, x.2 ≠ .cell) (n1 : scope.names.lookup ("self" : Str) = some .local) (n2 : scope.names.lookup fld = some .local) (n3 : scope.names.lookup ("super" : Str) = some .globalImplicit) (n4 : scope.names.lookup ("__class__" : Str) = some .free)
    (hfs : (fld == ("self" : Str)) = false) (hfd : (fld == ("__debug__" : Str)) = false) {x t0 : Addr} {v : Value} (hJ : ∀ L, JOk prog w J fld (ksEnv qual scope L fI (.ref cda) cc) v)
    {pl : Addr → Sem Bool} (he : ∀ L, eval (.Call (.Attribute (.Call (.Name "super" p0) [] [] p1) "__init__" p2) [J] [] p3) (ksEnv qual scope L fI (.ref cda) cc) = (do
      let ov ← attributeBase (.Call (.Name "super" p0) [] [] p1) "__init__" (ksEnv qual scope L fI (.ref cda) cc) (eval (.Call (.Name "super" p0) [] [] p1) (ksEnv qual scope L fI (.ref cda) cc))
      standAt p2.atName
      let (f, first) ← holding [ov] (getMethod ov "__init__" (pl L))
      callWith p3 f first (backTo p3 (starEach [J] (ksEnv qual scope L fI (.ref cda) cc))) []))
    (hst : ∀ L, starEach [J] (ksEnv qual scope L fI (.ref cda) cc) = [(false, eval J (ksEnv qual scope L fI (.ref cda) cc))])
    (hsw : ∀ L, swapsWith (.Name fld q3) (some (.Attribute (.Name "self" q1) fld q2)) q4.line (ksEnv qual scope L fI (.ref cda) cc) = pure false)
    (X : K.In s.heap) (hlim : s.heap.NoLimit) (hG : s.heap.Ns mainGlobals mg) (hg : mg "super" = none) (hB : s.heap.Ns builtinsNs mb) (hb : mb "super" = some (.type "super"))
    (hx : s.heap.get? x = some (HandSPX.excO C t0)) (hnx : K.lookup x = none) (hroom : A.depth < recursionLimit)
    (hq : ∀ h' tk dx t1, XEnd s.heap h' x C dx t1 fld v → R (.ok (.ret .none)) { s with heap := h', toks := tk }) :
    codeAny (model prog w) A (.call (.ref fI) ⟨[.ref x, v], []⟩) R s := by
  obtain ⟨oc, od, kV, doc, pm, an, ct, osl, hfn⟩ := T.fn
  obtain ⟨nm, q, N, bs, bm, sn, sub, ab, col, dd, k0, k1, k2, k3, k5, hC, hbm⟩ := T.cls
  have hcl : clsIn K C = some { name := nm, bases := bs, mro := .ref C :: bm, ns := N, qualname := q, hasDict := true, slotNames := sn, subclasses := sub, abstract := ab, collection := col, hasDel := false } := by unfold clsIn; rw [hC] <;> rfl
  refine ks_codeAny_call_defAt (fd := ksFn "__init__" qual params (xBody J fld p0 p1 p2 p3 p4 q1 q2 q3 q4) scope .none kV doc pm an (.ref cda) ct cc) (body := xBody J fld p0 p1 p2 p3 p4 q1 q2 q3 q4) (binds := [(Str.ofString "self", .ref x), (fld, v)]) hroom (X _ _ hfn) rfl hlim (codeRec_of X T.code) rfl (BindsTo.of_eq (hpar _ _ _ _ _ v x)) hcell (fun y hy => ?_) (fun h₁ hns hk₁ => ?_) hco hgen hkind
  · rcases List.mem_cons.mp hy with rfl | hy
    · exact n1
    · rcases List.mem_cons.mp hy with rfl | hy
      · exact n2
      · cases hy
  have X₁ : K.In h₁ := X.keeps hk₁
  have hx₁ := hk₁ _ _ hx
  have hxL : s.heap.objs.size ≠ x := Nat.ne_of_gt (Heap.lt_size hx)
  obtain ⟨cl, cld, csl, hcc⟩ := T.cell
  obtain ⟨ccl, cdd, ccs, vs, f, tf, hcda, hvs, hfile⟩ := T.file
  have hks : (ksEnv qual scope s.heap.objs.size fI (.ref cda) cc).kindOf "super" = some .globalImplicit := n3
  have hkc : (ksEnv qual scope s.heap.objs.size fI (.ref cda) cc).kindOf "__class__" = some .free := n4
  have hself : (ksEnv qual scope s.heap.objs.size fI (.ref cda) cc).kindOf "self" = some .local := n1
  have hfld : (ksEnv qual scope s.heap.objs.size fI (.ref cda) cc).kindOf fld = some .local := n2
  obtain ⟨ar, har, hnar⟩ : ∃ ar : Arg, (params.posonlyargs ++ params.args).head? = some ar ∧ ar.arg = Str.ofString "self" := by
    cases q : (params.posonlyargs ++ params.args).head? with
    | none => rw [q] at hhead; cases hhead
    | some ar => rw [q] at hhead; exact ⟨ar, rfl, Option.some.inj hhead⟩
  have l1 : ([(Str.ofString "self", Value.ref x), (fld, v)].reverse).lookup (Str.ofString "self") = some (.ref x) := by
    have : (Str.ofString "self" == fld) = false := by
      cases q : (Str.ofString "self" == fld) with
      | false => rfl
      | true => rw [← beq_iff_eq.mp q] at hfs; simp at hfs
    simp [List.lookup, this]
  have l2 : ([(Str.ofString "self", Value.ref x), (fld, v)].reverse).lookup fld = some v := by simp [List.lookup]
  have hi : interactive (ksEnv qual scope s.heap.objs.size fI (.ref cda) cc) = false := by
    unfold interactive
    simp [hkind]
  show PySem.wpAt _ _ _ (execs _ (ksEnv qual scope s.heap.objs.size fI (.ref cda) cc)) _ _ _
  -- super().__init__(J)
  refine ks_wpAt_execs_cons (ks_wpAt_Expr_any (ks_wpAt_MethodCall (ks_wpAt_super_base hks hkc (by decide) rfl (X₁ _ _ hfn) rfl har rfl (X₁ _ _ hcda) rfl hvs hfile T.top ?_) (he _)) hi)
  refine ks_loadName_global hkind hks (loadGlobal_builtin (hG.keeps hk₁) hg (hB.keeps hk₁) hb ⟨rfl, ?_⟩)
  refine wpAny_loadName_free hkind hkc rfl ⟨_, X₁ _ _ hcc, rfl⟩ ?_
  rw [hnar]
  refine wpAny_loadName_local hkind hself hns l1 ?_
  refine ks_wpAny_isType_cls (X₁ _ _ hC) rfl ⟨rfl, ?_⟩
  refine ks_wpAny_call_super (X₁ _ _ hC) rfl hx₁ rfl (fun c e => by cases e) (looks_mroIn X₁ T.slf) (fun h₂ hso k₂ => ?_)
  have X₂ : K.In h₂ := X₁.keeps k₂
  have hx₂ := k₂ _ _ hx₁
  have I₂ : InstAt h₂ x (HandSPX.excO C t0) C none := ⟨hx₂, rfl, rfl, trivial⟩
  have sup := T.sup
  unfold ks_superIn at sup
  rw [hcl] at sup
  refine kxs_getMethod kxs_ValueError hso (looks_opaque X₂ T.st) (l₀ := .ref C :: bm) (fun A Q E s k q => wpAny_bind ((looks_clsIn X₂ hcl) A _ E s k (wpAny_pure q))) rfl X₂ sup (I₂.type.andThen (looks_subIn X₂ T.subB)) (ks_ne X₂ I₂ hcl) (by decide) ?_
  show wpAny _ _ (callWith p3 (.ref h₂.objs.size) [] (backTo p3 (starEach [J] _)) []) _ _ _
  have hu : (h₂.push (kxs_mw "ValueError.__init__" x)).get? h₂.objs.size = some (kxs_mw "ValueError.__init__" x) := Heap.get?_push_size _ rfl
  have k₃ : ∀ b o, h₂.get? b = some o → (h₂.push (kxs_mw "ValueError.__init__" x)).get? b = some o := fun b o e => Heap.get?_push_of_some _ e
  have hn₃ := (hns.keeps k₂).keeps k₃
  rw [hst]
  refine kxs_callWith (i := "ValueError.__init__") (x := x) rfl (evalArgs_plain ?_)
  show wpAny _ _ (spliced ((false, eval J (ksEnv qual scope s.heap.objs.size fI (.ref cda) cc)) :: [])) _ _ _
  refine Calls.spliced_cons (wpAny_mono (hJ s.heap.objs.size _ (fun _ _ => False) _ _ hn₃ l2) (fun u s₄ hh => ?_) fun _ _ z => z.elim)
  obtain ⟨⟨t, tk, rfl⟩, tk2, rfl⟩ := hh
  refine Calls.spliced_nil ⟨hu, ?_⟩
  have X₃ : K.In (h₂.push (kxs_mw "ValueError.__init__" x)) := X₂.keeps k₃
  refine x_call (X₃ _ _ hC) hu (k₃ _ _ hx₂) (by show 1 ≤ sizeLine; decide) fun h₄ t' k₄ hx₄ => ?_
  have hn₄ := ns_but hn₃ hxL k₄
  have X₄ : K.In h₄ := kin_but X₃ hnx k₄
  -- self.fld = fld
  refine ks_wpAt_execs_cons (ks_wpAt_Assign_Attr (PyProof.Rows.wpAt_of_any (wpAny_Name (wpAny_loadName_local hkind hfld hn₄ l2 ?_) hfd)) (hsw _))
  refine wpAny_Name (wpAny_loadName_local hkind hself hn₄ l1 ?_) (by decide)
  refine set_plain X₄ (ox := HandSPX.excO C t') (od := none) ⟨hx₄, rfl, rfl, trivial⟩ T.sa ?_
  refine exc_osa X₄ hx₄ hcl (show refsVE (.ref C :: bm) = true from hbm) rfl T.noF (fun h₅ tk₅ dx k₅ dn dne hx₅ hn₅ => ?_)
  refine PyProof.Rows.wpAt_of_any (wpAny_execs_nil ?_)
  have old : ∀ b o, b ≠ x → s.heap.get? b = some o → h₅.get? b = some o := fun b o hb e => k₅ b o hb (k₄ b o hb (k₃ b o (k₂ b o (hk₁ b o e))))
  have big : s.heap.objs.size ≤ dx := by
    obtain ⟨o, _, _, e, _⟩ := hn₄
    exact Nat.le_of_lt (Nat.lt_of_lt_of_le (Heap.lt_size e) dn)
  exact hq h₅ tk₅ dx t' ⟨old, hx₅, big, dne, hn₅⟩
/-- a made one -/
structure XMade (h h' : Heap) (e C d : Addr) (fld : Str) (v : Value) : Prop where
  keep : ∀ b o, h.get? b = some o → h'.get? b = some o
  new : h.objs.size ≤ e
  obj : ∃ oe vs, h'.get? e = some oe ∧ oe.cls = .ref C ∧ oe.dict = some d ∧ oe.data = .fields vs ∧ vs[1]? = some .none
  dbig : h.objs.size ≤ d
  dne : d ≠ e
  ns : h'.Ns1 d (fun y => if y = fld then some v else none)
/-- C(v) -/
theorem x_made {v : Value} (T : XTxt prog K C fI cc cda fld qual params body scope)
    (hI : ∀ (A : Around) (s : Shared) (x t0 : Addr) (R : Result → Shared → Prop), K.In s.heap → s.heap.NoLimit → (∃ mg, s.heap.Ns mainGlobals mg ∧ mg "super" = none) → (∃ mb, s.heap.Ns builtinsNs mb ∧ mb "super" = some (.type "super")) → s.heap.get? x = some (HandSPX.excO C t0) → K.lookup x = none → A.depth < recursionLimit →
      (∀ h' tk dx t1, XEnd s.heap h' x C dx t1 fld v → R (.ok (.ret .none)) { s with heap := h', toks := tk }) → codeAny (model prog w) A (.call (.ref fI) ⟨[.ref x, v], []⟩) R s)
    (X : K.In s.heap) (hlim : s.heap.NoLimit) (hG : ∃ mg, s.heap.Ns mainGlobals mg ∧ mg "super" = none) (hB : ∃ mb, s.heap.Ns builtinsNs mb ∧ mb "super" = some (.type "super")) (hroom : A.depth + 1 < recursionLimit)
    (hq : ∀ h' tk e d, XMade s.heap h' e C d fld v → R (.ok (.ret (.ref e))) { s with heap := h', toks := tk }) :
    codeAny (model prog w) A (.call (.ref C) ⟨[v], []⟩) R s := by
  obtain ⟨nm, q, N, bs, bm, sn, sub, ab, col, dd, k0, k1, k2, k3, k5, hC, hbm⟩ := T.cls
  obtain ⟨hp, g, dr, tk, os⟩ := s
  have k : ∀ b o, hp.get? b = some o → ((hp.push (kdv_tup [v])).push (HandSPX.excO C hp.objs.size)).get? b = some o := fun b o e => Heap.get?_push_of_some _ (Heap.get?_push_of_some _ e)
  have hget : ((hp.push (kdv_tup [v])).push (HandSPX.excO C hp.objs.size)).get? (hp.objs.size + 1) = some (HandSPX.excO C hp.objs.size) := by heap_get
  have hnx : K.lookup (hp.objs.size + 1) = none := by
    cases e : K.lookup (hp.objs.size + 1) with
    | none => rfl
    | some o =>
      have z : hp.get? (hp.objs.size + 1) = some o := X _ _ e
      have lt1 : hp.objs.size + 1 < hp.objs.size := Heap.lt_size z
      exact (Nat.lt_irrefl _ (Nat.lt_of_succ_lt lt1)).elim
  refine HandSPX.call_own F.excBase_ValueError (fun X => HandSPX.refsVE_contains X bm hbm) (X _ _ hC) (looks_findIn X T.iC) (fun self => bind_fn X self T.tI) (by show 1 ≤ sizeLine; decide) ?_
  obtain ⟨mg, g1, g2⟩ := hG
  obtain ⟨mb, b1, b2⟩ := hB
  refine hI _ ⟨(hp.push (kdv_tup [v])).push (HandSPX.excO C hp.objs.size), g, dr, tk, os⟩ (hp.objs.size + 1) hp.objs.size _ (X.keeps k) (hlim.keeps k) ⟨mg, g1.keeps k, g2⟩ ⟨mb, b1.keeps k, b2⟩ hget hnx ?_ fun h' tk' dx t1 ⟨k', hx, dn, dne, hns⟩ => ?_
  · show A.depth + 1 < recursionLimit
    exact hroom
  · have old : ∀ b o, hp.get? b = some o → h'.get? b = some o := fun b o e => k' b o (fun w => Nat.lt_irrefl _ (Nat.lt_of_succ_lt (w ▸ Heap.lt_size e))) (k b o e)
    have z : hp.objs.size + 1 + 1 ≤ dx := by
      have q := dn
      rw [Heap.size_push, Heap.size_push] at q
      exact q
    exact ⟨rfl, hq h' tk' (hp.objs.size + 1) dx ⟨old, Nat.le_succ _, ⟨_, _, hx, rfl, rfl, rfl, rfl⟩, Nat.le_of_succ_le (Nat.le_of_succ_le z), dne, hns⟩⟩
end
end Xp
set_option Elab.async false
set_option linter.all false
set_option maxRecDepth 100000
set_option maxHeartbeats 4000000
namespace Xp
open PySem PySem.W PySem.Calls PyProof.Rows L2
/-- what an own error may carry -/
def okF (v : V) : Prop := (∃ y : Str, v = .str y ∧ y.length ≤ 100000) ∨ ∃ i : Int, v = .int i ∧ i.natAbs.log2 < 1000
def okFV (v : Value) : Prop := (∃ (y : Str) (t : Tok), v = .str y t ∧ y.length ≤ 100000) ∨ ∃ (i : Int) (t : Tok), v = .int i t ∧ i.natAbs.log2 < 1000
theorem okF.val {v : V} {u : Value} (h : okF v) (r : L2.RelV v u) : okFV u := by
  rcases h with ⟨y, rfl, hy⟩ | ⟨i, rfl, hi⟩
  · obtain ⟨t, rfl⟩ := r; exact .inl ⟨y, t, rfl, hy⟩
  · obtain ⟨t, rfl⟩ := r; exact .inr ⟨i, t, rfl, hi⟩
/-- an own error class, ready to be called -/
structure XCls (prog : Program) (w : World) (K : Frag) (C : Addr) (fld : Str) : Prop where
  ex : ∃ (fI cc cda : Addr) (qual : Str) (params : Arguments) (body : List Stmt) (scope : Scope), XTxt prog K C fI cc cda fld qual params body scope ∧
    ∀ v, okFV v → ∀ (A : Around) (s : Shared) (x t0 : Addr) (R : Result → Shared → Prop), K.In s.heap → s.heap.NoLimit → (∃ mg, s.heap.Ns mainGlobals mg ∧ mg "super" = none) → (∃ mb, s.heap.Ns builtinsNs mb ∧ mb "super" = some (.type "super")) → s.heap.get? x = some (HandSPX.excO C t0) → K.lookup x = none → A.depth < recursionLimit →
      (∀ h' tk dx t1, XEnd s.heap h' x C dx t1 fld v → R (.ok (.ret .none)) { s with heap := h', toks := tk }) → codeAny (model prog w) A (.call (.ref fI) ⟨[.ref x, v], []⟩) R s
  kC : keepIn K (.ref C) = true
  exC : subIn K (.ref C) (.type "BaseException") = some true
  tyC : typeIn K (.ref C) = some (.type "type")
theorem rel_fld {v : V} {v' : Value} {fld : Str} (r : L2.RelV v v') (f : Str) : RelO (List.lookup f [(fld, v)]) (if f = fld then some v' else none) := by
  by_cases h : f = fld
  · subst h
    have q : List.lookup f [(f, v)] = some v := by simp [List.lookup]
    rw [if_pos rfl, q]
    exact r
  · have q : (f == fld) = false := by simpa using h
    have q2 : List.lookup f [(fld, v)] = none := by simp [List.lookup, q]
    rw [if_neg h, q2]
    trivial
section
variable {X : Cx} {C : Addr} {fld : Str}
/-- C(e) -/
def tMkX (C : Addr) (fld : Str) (ta : TA) : L2.St → Hp → XK → Prop := fun σ H Q => ta σ H fun vs H1 => ∃ v, vs = [v] ∧ okF v ∧ ∀ d, H1 d = none → Q (.ref C) (some d) (upd H1 d (.xd [(fld, v)]))
theorem pmk_x {a : Expr} {ta : TA} {x : Str} {p pos : Pos} {k : Nat} (T : XCls X.prog X.w X.K C fld) (hr : Room k X.A) (ha : PA X [a] ta) (gl : Gl X x) (hm : X.mg x = some (.ref C)) (hs : X.mg "super" = none)
    (hd : (x == ("__debug__" : Str)) = false)
    (hst : starEach (a :: []) X.env = (false, eval a X.env) :: starEach [] X.env) : PMk X (.Call (.Name x p) [a] [] pos) (tMkX C fld ta) := by
  intro pins s σ H Q I h
  obtain ⟨fI, cc, cda, qual, params, body, scope, TX, hI⟩ := T.ex
  refine wpAny_Call_Name_kw (ld_glob I gl hm ?_ hd)
  refine PySem.W.callWith_K (h₀ := X.base) I.ok.mod.kin T.kC (thn (ha.run pos pins s σ H _ I h) fun us s1 hh => ?_) hst rfl
  obtain ⟨vs, H1, I1, r1, v, ev, okv, q1⟩ := hh
  subst ev
  refine ⟨I1.kIn, ?_⟩
  cases r1 with
  | cons rv rn =>
    rename_i v' us'
    cases rn
    show wpAny _ _ (call (.ref C) [v']) _ _ _
    have hlim := I1.nolimit
    have hgl : ∃ mg, s1.heap.Ns mainGlobals mg ∧ mg "super" = none := ⟨X.mg, I1.mod.glob.keeps I1.bk, hs⟩
    have hbl : ∃ mb, s1.heap.Ns builtinsNs mb ∧ mb "super" = some (.type "super") := by
      obtain ⟨mb, h1, h2⟩ := I1.mod.blt
      exact ⟨mb, h1.keeps I1.bk, (h2 _ (by decide +kernel)).trans (by decide +kernel)⟩
    have K1 := I1.kIn
    obtain ⟨hp, g, dr, tk, os⟩ := s1
    refine wpAny_call (x_made (s := ⟨hp, g, dr, tk, os⟩) TX (hI v' (okv.val rv)) K1 hlim hgl hbl (by have := hr.dp; omega) fun h' tk' e d M => ?_)
    show MkP X pins σ Q (.ref e) ⟨h', g, dr, tk', os⟩
    obtain ⟨oe, fv, hoe, hc, hd, hdat, h1⟩ := M.obj
    have hns := M.ns
    obtain ⟨G', g1, g2⟩ := restrict h' fun b => decide (b ≠ e)
    have gk : ∀ b, b ≠ e → G'.get? b = h'.get? b := fun b hb => g1 b (decide_eq_true hb)
    have ge : G'.get? e = none := g2 e (by simp)
    have old : ∀ b o, hp.get? b = some o → G'.get? b = some o := fun b o q => (gk b (fun z => Nat.lt_irrefl _ (Nat.lt_of_lt_of_le (z ▸ Heap.lt_size q) M.new))).trans (M.keep b o q)
    have ob : ObjOk X.prog X.w (upd H1 d (.xd [(fld, v)])) G' d (.xd [(fld, v)]) :=
      ⟨_, hns.at (fun o q => (gk d M.dne).trans q), fun f => rel_fld rv f⟩
    have J : L2.Inv X pins σ (upd H1 d (.xd [(fld, v)])) ⟨G', g, dr, tk', os⟩ := I1.laid (t' := tk') old M.dbig ob
    refine ⟨e, oe, fv, ⟨G', g, dr, tk', os⟩, _, .ref C, some d, rfl, J, fun b o q => ?_, ge, hoe, ⟨hc, hd⟩, hdat, h1, ?_, rfl, I1.bare, raises_own T.exC T.tyC, q1 d (I1.hok.fresh M.dbig)⟩
    · by_cases hb : b = e
      · have q' : G'.get? b = some o := q
        rw [hb, ge] at q'
        cases q'
      · exact (gk b hb).symm.trans q
    · rw [upd_ne (Ne.symm M.dne)]
      exact I1.hok.fresh M.new
/-- raise C(e) -/
def tRaiseX (C : Addr) (fld : Str) (W : WX) (ta : TA) : TS := fun _ σ H => tMkX C fld ta σ H fun cls d H' => W cls d σ H'
theorem ps_raiseX {a : Expr} {ta : TA} {W : WX} {x : Str} {p pos pos2 : Pos} {k : Nat} (hc : X.calm = true) (T : XCls X.prog X.w X.K C fld) (hr : Room k X.A) (tk : Takes X W) (ha : PA X [a] ta) (gl : Gl X x) (hm : X.mg x = some (.ref C)) (hs : X.mg "super" = none)
    (hd : (x == ("__debug__" : Str)) = false) (hst : starEach (a :: []) X.env = (false, eval a X.env) :: starEach [] X.env) :
    PS X (.Raise (some (.Call (.Name x p) [a] [] pos)) none pos2) (tRaiseX C fld W ta) := ps_raise hc tk (pmk_x T hr ha gl hm hs hd hst)
end
end Xp
set_option Elab.async false
set_option linter.all false
set_option maxRecDepth 100000
/-! a small machine: data, objects, expressions, statements, their evaluation -/
namespace Mx
open PySem L2
/-! ### data -/
inductive D where
  | non | bl (b : Bool) | int (i : Int) | str (x : Str) | tup (l : List D) | ref (i : Nat)
inductive Ob where
  | lst (l : List D) | frz (l : List D) | ins (c : Nat) (fs : List (Str × D)) | dct (kvs : List (List Int × D))
abbrev Sto := List Ob
abbrev Rho := List (Option D)
structure Exn where
  c : Nat
  fs : List (Str × D)
inductive Rs (α : Type) where
  | ok (a : α) (S : Sto) | er (x : Exn) (S : Sto)
abbrev Mo (α : Type) := Option (Rs α)
def bnd {α β : Type} (m : Mo α) (f : α → Sto → Mo β) : Mo β := match m with
  | some (.ok a S) => f a S
  | some (.er x S) => some (.er x S)
  | none => none
def lft {α : Type} (m : Option (α × Sto)) : Mo α := match m with
  | some (a, S) => some (.ok a S)
  | none => none
def lf0 {α : Type} (m : Option α) (S : Sto) : Mo α := match m with
  | some a => some (.ok a S)
  | none => none
/-! ### syntax -/
inductive B2 where
  | add | sub | mul | fdiv | mod | pow | shl | shr
/-- of one value -/
inductive O1 where
  | bits | dvl
inductive Cm where
  | eq | ne | lt | le | gt | ge | is | isnot | isin | notin
inductive Ty where
  | int | bool | str | list | tuple
inductive Bi where
  | len | abs | int | sum | min | max | list | tuple | repr | gcd | lcm | range | enumerate | zip | reversed | sorted | bool | all | any
inductive Ib where
  | val | rng | enm | zip | rev
inductive Mt where
  | append | extend | pop
inductive Tg where
  | nm (i : Nat) | ns (l : List Nat)
mutual
inductive Ex where
  | var (i : Nat) | cst (d : D) | glb (i : Nat)
  | bin (o : B2) (a b : Ex) | neg (a : Ex) | nt (a : Ex)
  | cmp (o : Cm) (a b : Ex) | chn (o : Cm) (o' : Cm) (a b c : Ex)
  | an (a b : Ex) | or (a b : Ex) | ite (c a b : Ex)
  | cal (f : Nat) (as : Exs) | bi (b : Bi) (as : Exs) | isi (a : Ex) (t : Ty) | mth (m : Mt) (o : Ex) (as : Exs)
  | idx (a b : Ex) | slc (a : Ex) (lo hi : Exs) | rvs (a : Ex)
  | tup (as : Exs) | lst (as : Exs)
  | lc (el : Ex) (own : List Nat) (t : Tg) (b : Ib) (as : Exs) (ifs : Exs)
  | dg (kvs : List (Str × D)) (as : Exs) | cad (f : Nat) (as : Exs) (ds : List D) | lz (as : Exs)
  | o1 (o : O1) (a : Ex) | fld (a : Ex) (f : Str) (cs : List Nat) | mk (c f : Nat) (as : Exs) | met (m : Str) (c f : Nat) (o : Ex) (as : Exs) | dn
inductive Exs where
  | nil | cons (a : Ex) (as : Exs) | star (a : Ex) (as : Exs)
end
/-- what an except suite may look at; fld: a field of what was caught -/
inductive Hx where
  | var (i : Nat) | cst (d : D) | fld (f : Str) | cmp (o : Cm) (a b : Hx) | an (a b : Hx) | or (a b : Hx) | nt (a : Hx) | ite (c a b : Hx) | neg (a : Hx) | idx (a b : Hx)
inductive Hs where
  | nil | ret (a : Hx) | retn | iff (c a : Hx) (r : Hs)
mutual
inductive Sm where
  | pass | brk | cnt | expr (e : Ex) | ret (e : Ex) | retn
  | asg (t : Tg) (e : Ex) | seti (o i e : Ex) | par (i j : Nat) (a b : Ex) | aug (i : Nat) (o : B2) (e : Ex)
  | iff (c : Ex) (a b : Sms) | for (t : Tg) (k : Ib) (as : Exs) (b : Sms) | whl (c : Ex) (b : Sms)
  | dpt (o a e : Ex) | sfl (o : Ex) (f : Str) (cs : List Nat) (e : Ex) | afl (o : Ex) (f : Str) (c : Nat) (p : B2) (e : Ex)
  | agi (o i : Ex) (p : B2) (e : Ex) | rse (c : Nat) (f : Str) (e : Ex) | tri (b : Sms) (yes no : List Nat) (i : Option Nat) (h : Hs)
inductive Sms where
  | nil | cons (s : Sm) (r : Sms)
end
/-! ### operations -/
def LIM : Nat := 1000000
def WID : Nat := 2 ^ 4000
def lstOf (S : Sto) (i : Nat) : Option (List D) := match S[i]? with
  | some (.lst l) => some l
  | some (.frz l) => some l
  | _ => none
def mutOf (S : Sto) (i : Nat) : Option (List D) := match S[i]? with
  | some (.lst l) => some l
  | _ => none
mutual
def pdW (f : Nat → Option PyData) : D → Option PyData
  | .non => some .none
  | .bl b => some (.bool b)
  | .int i => some (.int i)
  | .str x => some (.str x)
  | .tup l => (pdWs f l).map .tuple
  | .ref i => f i
def pdWs (f : Nat → Option PyData) : List D → Option (List PyData)
  | [] => some []
  | d :: ds => match pdW f d, pdWs f ds with
    | some x, some xs => some (x :: xs)
    | _, _ => none
end
def mapO {α β : Type} (f : α → Option β) : List α → Option (List β)
  | [] => some []
  | d :: ds => match f d, mapO f ds with
    | some x, some xs => some (x :: xs)
    | _, _ => none
def pdN : Nat → Sto → D → Option PyData
  | 0, _ => pdW fun _ => none
  | n + 1, S => pdW fun i => match lstOf S i with
    | some l => (mapO (pdN n S) l).map .list
    | none => none
def eqD (S : Sto) (a b : D) : Option Bool := match pdN 3 S a, pdN 3 S b with
  | some x, some y => if SeqAt.shaped x && SeqAt.shaped y then some (PyData.eqv x y) else none
  | _, _ => none
def strD : D → D → Option Bool
  | .str a, .str b => some (a == b)
  | _, _ => none
def eqC (S : Sto) (a b : D) : Option Bool := match strD a b with
  | some c => some c
  | none => eqD S a b
def tru (S : Sto) : D → Option Bool
  | .non => some false
  | .bl b => some b
  | .int i => some (i != 0)
  | .str x => if x.length ≤ LIM then some ((x.length : Int) != 0) else none
  | .tup l => some (!l.isEmpty)
  | .ref i => (lstOf S i).map fun l => !l.isEmpty
def intL : List D → Option (List Int)
  | [] => some []
  | .int i :: r => (intL r).map (i :: ·)
  | _ => none
def blL : List D → Option (List Bool)
  | [] => some []
  | .bl b :: r => (blL r).map (b :: ·)
  | _ => none
def op2 : B2 → D → D → Sto → Option (D × Sto)
  | .add, .int i, .int j, S => some (.int (i + j), S)
  | .add, .tup a, .tup b, S => if a.length + b.length ≤ LIM then some (.tup (a ++ b), S) else none
  | .add, .ref a, .ref b, S => match mutOf S a, mutOf S b with
    | some x, some y => if x.length + y.length ≤ LIM then some (.ref S.length, S ++ [.lst (x ++ y)]) else none
    | _, _ => none
  | .sub, .int i, .int j, S => some (.int (i - j), S)
  | .mul, .int i, .int j, S => if i.natAbs < WID ∧ j.natAbs < WID then some (.int (i * j), S) else none
  | .mul, .ref a, .int j, S => match mutOf S a with
    | some x => if x.length * j.toNat ≤ LIM ∧ j.natAbs ≤ LIM then some (.ref S.length, S ++ [.lst (List.replicate j.toNat x).flatten]) else none
    | _ => none
  | .fdiv, .int i, .int j, S => if j ≠ 0 ∧ j.natAbs < WID then some (.int (i.fdiv j), S) else none
  | .mod, .int i, .int j, S => if j ≠ 0 then some (.int (i.fmod j), S) else none
  | .pow, .int i, .int j, S => if 0 ≤ j ∧ j ≤ 1000000 ∧ i.natAbs < 2 ^ 64 then some (.int (i ^ j.toNat), S) else none
  | .shr, .int i, .int j, S => if 0 ≤ j ∧ j ≤ 1000000 then some (.int (i / 2 ^ j.toNat), S) else none
  | .shl, .int i, .int j, S => if 0 ≤ j ∧ j ≤ 1000000 ∧ i.natAbs < 2 ^ 64 then some (.int (i * 2 ^ j.toNat), S) else none
  | _, _, _, _ => none
def isin (S : Sto) (a : D) : List D → Option Bool
  | [] => some false
  | d :: ds => match eqD S d a, isin S a ds with
    | some b, some c => some (b || c)
    | _, _ => none
def seqOf (S : Sto) : D → Option (List D)
  | .tup l => some l
  | .ref i => lstOf S i
  | _ => none
def cm2 : Cm → D → D → Sto → Option Bool
  | .eq, a, b, S => eqC S a b
  | .ne, a, b, S => (eqC S a b).map (!·)
  | .lt, .int i, .int j, _ => some (decide (i < j))
  | .lt, .tup a, .tup b, _ => match intL a, intL b with
    | some x, some y => some (HT.lexLt x y)
    | _, _ => none
  | .lt, .ref a, .ref b, S => match (lstOf S a).bind intL, (lstOf S b).bind intL with
    | some x, some y => some (HT.lexLt x y)
    | _, _ => none
  | .le, .int i, .int j, _ => some (decide (i ≤ j))
  | .le, .str x, .str y, _ => some (!decide (y.cps.toList < x.cps.toList))
  | .gt, .int i, .int j, _ => some (decide (j < i))
  | .ge, .int i, .int j, _ => some (decide (j ≤ i))
  | .is, .bl a, .bl b, _ => some (decide (a = b))
  | .is, .non, .non, _ => some true
  | .is, .bl _, .non, _ | .is, .int _, .non, _ | .is, .str _, .non, _ | .is, .tup _, .non, _ | .is, .ref _, .non, _ => some false
  | .isnot, .bl a, .bl b, _ => some (!decide (a = b))
  | .isnot, .non, .non, _ => some false
  | .isnot, .bl _, .non, _ | .isnot, .int _, .non, _ | .isnot, .str _, .non, _ | .isnot, .tup _, .non, _ | .isnot, .ref _, .non, _ => some true
  | .isin, a, b, S => (seqOf S b).bind fun l => isin S a l
  | .notin, a, b, S => ((seqOf S b).bind fun l => isin S a l).map (!·)
  | _, _, _, _ => none
def isTy (S : Sto) : D → Ty → Option Bool
  | .non, _ => some false
  | .bl _, .int => some true
  | .bl _, .bool => some true
  | .bl _, _ => some false
  | .int _, .int => some true
  | .int _, _ => some false
  | .str _, .str => some true
  | .str _, _ => some false
  | .tup _, .tuple => some true
  | .tup _, _ => some false
  | .ref i, t => (lstOf S i).map fun _ => match t with
    | .list => true
    | _ => false
def bi1 : Bi → List D → Sto → Option (D × Sto)
  | .len, [.tup l], S => some (.int l.length, S)
  | .len, [.ref i], S => (lstOf S i).map fun l => (.int l.length, S)
  | .abs, [.int i], S => some (.int (if i < 0 then -i else i), S)
  | .int, [.int i], S => some (.int i, S)
  | .int, [.bl b], S => some (.int (if b then 1 else 0), S)
  | .bool, [.int i], S => some (.bl (i != 0), S)
  | .bool, [.bl b], S => some (.bl b, S)
  | .sum, [.ref i], S => ((lstOf S i).bind intL).map fun ns => (.int ns.sum, S)
  | .min, [.int i, .int j], S => some (.int (if j < i then j else i), S)
  | .min, [.ref i], S => ((lstOf S i).bind intL).bind fun ns => ns.min?.map fun m => (.int m, S)
  | .max, [.ref i], S => ((lstOf S i).bind intL).bind fun ns => ns.max?.map fun m => (.int m, S)
  | .max, [.int i, .int j], S => some (.int (if j > i then j else i), S)
  | .list, [.tup l], S => some (.ref S.length, S ++ [.lst l])
  | .list, [.ref i], S => (lstOf S i).map fun l => (.ref S.length, S ++ [.lst l])
  | .tuple, [.tup l], S => some (.tup l, S)
  | .tuple, [.ref i], S => (lstOf S i).map fun l => (.tup l, S)
  | .gcd, [.int i, .int j], S => some (.int ((Nat.gcd i.natAbs j.natAbs : Nat) : Int), S)
  | .lcm, [.int i, .int j], S => if i.natAbs < 2 ^ 64 ∧ j.natAbs < 2 ^ 64 then some (.int ((Nat.lcm i.natAbs j.natAbs : Nat) : Int), S) else none
  | .repr, [d], S => match pdN 3 S d with
    | some x => if x.showable = true ∧ x.hasDict = false ∧ x.depth ≤ 60 ∧ x.shown.length ≤ LIM then some (.str x.shown, S) else none
    | none => none
  | .all, [.ref i], S => ((lstOf S i).bind blL).map fun bs => (.bl (bs.all id), S)
  | .any, [.ref i], S => ((lstOf S i).bind blL).map fun bs => (.bl (bs.any id), S)
  | _, _, _ => none
/-- d.get(..) of a written dict -/
def dgt (kvs : List (Str × D)) : List D → Option D
  | [.str k] => some ((kvs.lookup k).getD .non)
  | [.str k, y] => some ((kvs.lookup k).getD y)
  | _ => none
def zipD (x y : List D) : List D := List.zipWith (fun a b => D.tup [a, b]) x y
/-- list(zip(a, b)) -/
def lz1 : List D → Sto → Option (D × Sto)
  | [a, b], S => match seqOf S a, seqOf S b with
    | some x, some y => if x.length ≤ LIM then some (.ref S.length, S ++ [.lst (zipD x y)]) else none
    | _, _ => none
  | _, _ => none
def mt1 : Mt → D → List D → Sto → Option (D × Sto)
  | .append, .ref i, [d], S => match mutOf S i with
    | some l => if l.length < LIM then some (.non, S.set i (.lst (l ++ [d]))) else none
    | none => none
  | .extend, .ref i, [.ref j], S => match mutOf S i, mutOf S j with
    | some l, some m => if l.length + m.length ≤ LIM then some (.non, S.set i (.lst (l ++ m))) else none
    | _, _ => none
  | .extend, .ref i, [.tup m], S => match mutOf S i with
    | some l => if l.length + m.length ≤ LIM then some (.non, S.set i (.lst (l ++ m))) else none
    | none => none
  | .pop, .ref i, [], S => match mutOf S i with
    | some l => match l[l.length - 1]? with
      | some d => some (d, S.set i (.lst l.dropLast))
      | none => none
    | none => none
  | _, _, _, _ => none
def ix1 (S : Sto) : D → D → Option D
  | a, .int i => (seqOf S a).bind fun l => atI l i
  | _, _ => none
def oInt : List D → Option (Option Int)
  | [] => some none
  | [.int i] => some (some i)
  | _ => none
def isL (S : Sto) : D → Bool
  | .ref i => (lstOf S i).isSome
  | _ => false
def cutD (xs : List D) (lo hi : Option Int) : List D := (xs.drop (HT.sIx xs.length 0 lo)).take (HT.sIx xs.length xs.length hi - HT.sIx xs.length 0 lo)
def sl1 (a : D) (lo hi : List D) (S : Sto) : Option (D × Sto) := match oInt lo, oInt hi with
  | some l, some h => match a with
    | .tup xs => some (.tup (cutD xs l h), S)
    | .ref i => (lstOf S i).map fun xs => (.ref S.length, S ++ [.lst (cutD xs l h)])
    | _ => none
  | _, _ => none
def rv1 : D → Sto → Option (D × Sto)
  | .tup xs, S => some (.tup xs.reverse, S)
  | .ref i, S => (lstOf S i).map fun xs => (.ref S.length, S ++ [.lst xs.reverse])
  | _, _ => none
/-! ### instances -/
def insOf (S : Sto) (i : Nat) : Option (Nat × List (Str × D)) := match S[i]? with
  | some (.ins c fs) => some (c, fs)
  | _ => none
/-- e.f -/
def fld1 (cs : List Nat) (f : Str) (S : Sto) : D → Option D
  | .ref i => match insOf S i with
    | some (c, fs) => if cs.contains c then fs.lookup f else none
    | none => none
  | _ => none
/-- is it an instance of class c whose own dict has no m? -/
def isMe (c : Nat) (m : Str) (S : Sto) : D → Bool
  | .ref i => match insOf S i with
    | some (c', fs) => decide (c' = c) && (fs.lookup m).isNone
    | none => false
  | _ => false
def putD (f : Str) (v : D) : List (Str × D) → List (Str × D)
  | [] => [(f, v)]
  | (g, x) :: r => if g = f then (g, v) :: r else (g, x) :: putD f v r
/-- e.f = v -/
def sfl1 (cs : List Nat) (f : Str) (S : Sto) : D → D → Option Sto
  | .ref i, v => match insOf S i with
    | some (c, fs) => if cs.contains c ∧ fs.length < 1000 then some (S.set i (.ins c (putD f v fs))) else none
    | none => none
  | _, _ => none
def dctOf (S : Sto) (i : Nat) : Option (List (List Int × D)) := match S[i]? with
  | some (.dct kvs) => some kvs
  | _ => none
def op1 : O1 → D → Sto → Option (D × Sto)
  | .bits, .int i, S => some (.int ((Builtin.Int.intBits i : Nat) : Int), S)
  | .dvl, .ref i, S => (dctOf S i).map fun kvs => (.ref S.length, S ++ [.lst (kvs.map (·.2))])
  | _, _, _ => none
/-! ### what is walked -/
inductive Itr where
  | items (l : List D) | live (r : Nat) | back (r n : Nat) | zp (a b : D) | sgn (x : Str)
def nxt : Itr → Nat → Sto → Option (Option D)
  | .items l, i, _ => some l[i]?
  | .sgn x, i, _ => some ((x.cps[i]?).map fun c => .str ⟨#[c]⟩)
  | .live r, i, S => (lstOf S r).map fun l => l[i]?
  | .back r n, i, S => if i < n then (lstOf S r).bind fun l => (l[n - 1 - i]?).map some else some none
  | .zp a b, i, S => match seqOf S a, seqOf S b with
    | some x, some y => if i ≤ x.length ∧ i ≤ y.length then (match x[i]?, y[i]? with
      | some d, some e => some (some (.tup [d, e]))
      | _, _ => some none) else none
    | _, _ => none
def lenI : Itr → Sto → Nat
  | .items l, _ => l.length
  | .sgn x, _ => x.cps.size
  | .live r, S => match lstOf S r with
    | some l => l.length
    | none => 0
  | .back _ n, _ => n
  | .zp a b, S => match seqOf S a, seqOf S b with
    | some x, some y => min x.length y.length
    | _, _ => 0
def rng (lo : Int) (n : Nat) : List D := (List.range n).map fun (k : Nat) => D.int (lo + (k : Int))
def okR (i : Int) : Bool := Nat.ble i.natAbs (2 ^ 62 - 1)
def itV (S : Sto) : D → Option Itr
  | .tup l => some (.items l)
  | .ref r => (lstOf S r).map fun _ => .live r
  | .str x => some (.sgn x)
  | _ => none
def it1 (S : Sto) : Ib → List D → Option Itr
  | .val, [d] => itV S d
  | .rev, [.tup l] => some (.items l.reverse)
  | .rev, [.ref r] => (lstOf S r).map fun l => .back r l.length
  | .zip, [a, b] => match seqOf S a, seqOf S b with
    | some _, some _ => some (.zp a b)
    | _, _ => none
  | .rng, [.int j] => if okR j then some (.items (rng 0 j.toNat)) else none
  | .rng, [.int i, .int j] => if okR i && okR j then some (.items (rng i (j - i).toNat)) else none
  | _, _ => none
def setAll : List Nat → List D → Rho → Option Rho
  | [], [], ρ => some ρ
  | i :: is, d :: ds, ρ => setAll is ds (ρ.set i (some d))
  | _, _, _ => none
def asgT : Tg → D → Rho → Option Rho
  | .nm i, d, ρ => some (ρ.set i (some d))
  | .ns is, .tup l, ρ => setAll is l ρ
  | _, _, _ => none
def wipeD (ρ : Rho) : List Nat → Rho
  | [] => ρ
  | v :: vs => (wipeD ρ vs).set v none
/-- the loop of a comprehension: k the list that grows -/
def lcL (el tst : Rho → Sto → Mo D) (t : Tg) (it : Itr) (ρ : Rho) (k : Nat) : Nat → Nat → Sto → Mo D
  | 0, _, _ => none
  | n + 1, i, S => match nxt it i S with
    | none => none
    | some none => some (.ok (.ref k) S)
    | some (some d) => match asgT t d ρ with
      | none => none
      | some ρ1 => match tst ρ1 S with
        | some (.ok (.bl true) S1) => match el ρ1 S1 with
          | some (.ok y S2) => match mutOf S2 k with
            | some acc => if acc.length < LIM then lcL el tst t it ρ k n (i + 1) (S2.set k (.lst (acc ++ [y]))) else none
            | none => none
          | _ => none
        | some (.ok (.bl false) S1) => lcL el tst t it ρ k n (i + 1) S1
        | _ => none
/-- a value as it is asked for: m = true: its truth -/
def fin (m : Bool) (r : Mo D) : Mo D := if m then bnd r fun d S => lf0 ((tru S d).map .bl) S else r
section
variable (R : Nat → List D → Sto → Mo D) (G : List D)
mutual
/-- m: as a test -/
def ev : Ex → Bool → Rho → Sto → Mo D
  | .var i, m, ρ, S => fin m (match ρ[i]? with
    | some (some d) => some (.ok d S)
    | _ => none)
  | .cst d, m, _, S => fin m (some (.ok d S))
  | .glb i, m, _, S => fin m (lf0 G[i]? S)
  | .bin o a b, m, ρ, S => fin m (bnd (ev a false ρ S) fun x S1 => bnd (ev b false ρ S1) fun y S2 => lft (op2 o x y S2))
  | .neg a, m, ρ, S => fin m (bnd (ev a false ρ S) fun x S1 => match x with
    | .int i => some (.ok (.int (-i)) S1)
    | _ => none)
  | .nt a, m, ρ, S => if m then bnd (ev a true ρ S) fun x S1 => match x with
      | .bl b => some (.ok (.bl (!b)) S1)
      | _ => none
    else bnd (ev a false ρ S) fun x S1 => lf0 ((tru S1 x).map fun b => .bl (!b)) S1
  | .cmp o a b, _, ρ, S => bnd (ev a false ρ S) fun x S1 => bnd (ev b false ρ S1) fun y S2 => lf0 ((cm2 o x y S2).map .bl) S2
  | .chn o o' a b c, _, ρ, S => bnd (ev a false ρ S) fun x S1 => bnd (ev b false ρ S1) fun y S2 => match cm2 o x y S2 with
    | some true => bnd (ev c false ρ S2) fun z S3 => lf0 ((cm2 o' y z S3).map .bl) S3
    | some false => some (.ok (.bl false) S2)
    | none => none
  | .an a b, m, ρ, S => bnd (ev a m ρ S) fun x S1 => match x with
    | .bl true => ev b m ρ S1
    | .bl false => some (.ok (.bl false) S1)
    | _ => none
  | .or a b, m, ρ, S => bnd (ev a m ρ S) fun x S1 => match x with
    | .bl true => some (.ok (.bl true) S1)
    | .bl false => ev b m ρ S1
    | _ => none
  | .ite c a b, m, ρ, S => if m then none else bnd (ev c true ρ S) fun x S1 => match x with
    | .bl true => ev a false ρ S1
    | .bl false => ev b false ρ S1
    | _ => none
  | .cal f as, m, ρ, S => fin m (bnd (evs as ρ S) fun ds S1 => R f ds S1)
  | .bi b as, m, ρ, S => fin m (bnd (evs as ρ S) fun ds S1 => lft (bi1 b ds S1))
  | .isi a t, m, ρ, S => fin m (bnd (ev a false ρ S) fun x S1 => lf0 ((isTy S1 x t).map .bl) S1)
  | .mth k o as, m, ρ, S => fin m (bnd (ev o false ρ S) fun x S1 => if isL S1 x then bnd (evs as ρ S1) fun ds S2 => lft (mt1 k x ds S2) else none)
  | .idx a b, m, ρ, S => fin m (bnd (ev a false ρ S) fun x S1 => bnd (ev b false ρ S1) fun y S2 => lf0 (ix1 S2 x y) S2)
  | .rvs a, m, ρ, S => fin m (bnd (ev a false ρ S) fun x S1 => lft (rv1 x S1))
  | .slc a lo hi, m, ρ, S => fin m (bnd (ev a false ρ S) fun x S1 => bnd (evs lo ρ S1) fun l S2 => if (oInt l).isSome then bnd (evs hi ρ S2) fun h S3 => lft (sl1 x l h S3) else none)
  | .tup as, m, ρ, S => fin m (bnd (evs as ρ S) fun ds S1 => if ds.length ≤ LIM then some (.ok (.tup ds) S1) else none)
  | .lst as, m, ρ, S => fin m (bnd (evs as ρ S) fun ds S1 => if ds.length ≤ LIM then some (.ok (.ref S1.length) (S1 ++ [.lst ds])) else none)
  | .lc el own t k as ifs, m, ρ, S => fin m (bnd (evs as ρ S) fun ds S1 => match it1 S1 k ds with
    | some j => lcL (fun ρ S => ev el false ρ S) (fun ρ S => evt ifs ρ S) t j (wipeD ρ own) S1.length (lenI j S1 + 1) 0 (S1 ++ [.lst []])
    | none => none)
  | .dg kvs as, m, ρ, S => fin m (bnd (evs as ρ S) fun ds S1 => lf0 (dgt kvs ds) S1)
  | .cad f as es, m, ρ, S => fin m (bnd (evs as ρ S) fun ds S1 => R f (ds ++ es) S1)
  | .lz as, m, ρ, S => fin m (bnd (evs as ρ S) fun ds S1 => lft (lz1 ds S1))
  | .o1 o a, m, ρ, S => fin m (bnd (ev a false ρ S) fun x S1 => lft (op1 o x S1))
  | .fld a f cs, m, ρ, S => fin m (bnd (ev a false ρ S) fun x S1 => lf0 (fld1 cs f S1 x) S1)
  | .dn, m, _, S => fin m (some (.ok (.ref S.length) (S ++ [.dct []])))
  | .mk c f as, m, ρ, S => fin m (bnd (evs as ρ S) fun ds S1 => bnd (R f (.ref S1.length :: ds) (S1 ++ [.ins c []])) fun d S2 => match d with
    | .non => some (.ok (.ref S1.length) S2)
    | _ => none)
  | .met k c f o as, m, ρ, S => fin m (bnd (ev o false ρ S) fun x S1 => if isMe c k S1 x then bnd (evs as ρ S1) fun ds S2 => R f (x :: ds) S2 else none)
def evs : Exs → Rho → Sto → Mo (List D)
  | .nil, _, S => some (.ok [] S)
  | .cons a as, ρ, S => bnd (ev a false ρ S) fun x S1 => bnd (evs as ρ S1) fun xs S2 => some (.ok (x :: xs) S2)
  | .star a as, ρ, S => bnd (ev a false ρ S) fun x S1 => match seqOf S1 x with
    | some l => bnd (evs as ρ S1) fun xs S2 => some (.ok (l ++ xs) S2)
    | none => none
/-- a comprehension's tests: none, or one -/
def evt : Exs → Rho → Sto → Mo D
  | .nil, _, S => some (.ok (.bl true) S)
  | .cons a _, ρ, S => ev a true ρ S
  | .star _ _, _, _ => none
end
end
end Mx
set_option Elab.async false
set_option linter.all false
set_option maxRecDepth 100000
/-! statements, defs; from the program's text to them -/
namespace Mx
open PySem L2
inductive Fl where
  | nx | ret (d : D) | brk | ct
inductive Rt where
  | ok (f : Fl) (ρ : Rho) (S : Sto) | er (x : Exn) (ρ : Rho) (S : Sto)
abbrev MoS := Option Rt
def bnS {α : Type} (ρ : Rho) (m : Mo α) (f : α → Sto → MoS) : MoS := match m with
  | some (.ok a S) => f a S
  | some (.er x S) => some (.er x ρ S)
  | none => none
def nxS (r : Option (Rho × Sto)) : MoS := match r with
  | some (ρ, S) => some (.ok .nx ρ S)
  | none => none
def forL (t : Tg) (it : Itr) (body : Rho → Sto → MoS) : Nat → Nat → Rho → Sto → MoS
  | 0, _, _, _ => none
  | n + 1, i, ρ, S => match nxt it i S with
    | none => none
    | some none => some (.ok .nx ρ S)
    | some (some d) => match asgT t d ρ with
      | none => none
      | some ρ1 => match body ρ1 S with
        | some (.ok .nx ρ2 S2) => forL t it body n (i + 1) ρ2 S2
        | some (.ok .ct ρ2 S2) => forL t it body n (i + 1) ρ2 S2
        | some (.ok .brk ρ2 S2) => some (.ok .nx ρ2 S2)
        | r => r
def whL (c : Rho → Sto → Mo D) (body : Rho → Sto → MoS) : Nat → Rho → Sto → MoS
  | 0, _, _ => none
  | n + 1, ρ, S => bnS ρ (c ρ S) fun x S1 => match x with
    | .bl true => match body ρ S1 with
      | some (.ok .nx ρ2 S2) => whL c body n ρ2 S2
      | some (.ok .ct ρ2 S2) => whL c body n ρ2 S2
      | some (.ok .brk ρ2 S2) => some (.ok .nx ρ2 S2)
      | r => r
    | .bl false => some (.ok .nx ρ S1)
    | _ => none
def seti (S : Sto) : D → D → D → Option Sto
  | .ref r, .int k, v => (mutOf S r).bind fun l => (ixN l.length k).map fun j => S.set r (.lst (l.set j v))
  | _, _, _ => none
def getL (S : Sto) : D → D → Option D
  | .ref n, .int i => (lstOf S n).bind fun l => atI l i
  | _, _ => none
def aug (o : B2) (S : Sto) : D → D → Option D
  | .int i, .int j => match o with
    | .add => some (.int (i + j))
    | .sub => some (.int (i - j))
    | _ => none
  | _, _ => none
/-- d[tuple(l)] = v -/
def putQ (kvs : List (List Int × D)) (k : List Int) (v : D) : List (List Int × D) :=
  if kvs.any (fun p => decide (p.1 = k)) then kvs.map (fun p => if p.1 = k then (p.1, v) else p) else kvs ++ [(k, v)]
def setQ (S : Sto) : D → D → D → Option Sto
  | .ref r, .ref j, v => (dctOf S r).bind fun kvs => ((lstOf S j).bind intL).bind fun k => if kvs.length < LIM then some (S.set r (.dct (putQ kvs k v))) else none
  | _, _, _ => none
/-- what an own error may carry -/
def okD : D → Bool
  | .str y => decide (y.length ≤ 100000)
  | .int i => decide (i.natAbs.log2 < 1000)
  | _ => false
def evH (x : Exn) : Hx → Rho → Sto → Option D
  | .var i, ρ, _ => ρ[i]?.join
  | .cst d, _, _ => some d
  | .fld f, _, _ => x.fs.lookup f
  | .cmp o a b, ρ, S => match evH x a ρ S, evH x b ρ S with
    | some p, some q => (cm2 o p q S).map .bl
    | _, _ => none
  | .an a b, ρ, S => match evH x a ρ S with
    | some (.bl true) => evH x b ρ S
    | some (.bl false) => some (.bl false)
    | _ => none
  | .or a b, ρ, S => match evH x a ρ S with
    | some (.bl true) => some (.bl true)
    | some (.bl false) => evH x b ρ S
    | _ => none
  | .nt a, ρ, S => match evH x a ρ S with
    | some (.bl b) => some (.bl (!b))
    | _ => none
  | .ite c a b, ρ, S => match evH x c ρ S with
    | some (.bl true) => evH x a ρ S
    | some (.bl false) => evH x b ρ S
    | _ => none
  | .neg a, ρ, S => match evH x a ρ S with
    | some (.int i) => some (.int (-i))
    | _ => none
  | .idx a b, ρ, S => match evH x a ρ S, evH x b ρ S with
    | some p, some q => ix1 S p q
    | _, _ => none
def exH (x : Exn) : Hs → Rho → Sto → Option Fl
  | .nil, _, _ => some .nx
  | .ret a, ρ, S => (evH x a ρ S).map .ret
  | .retn, _, _ => some (.ret .non)
  | .iff c a r, ρ, S => match evH x c ρ S with
    | some (.bl true) => (evH x a ρ S).map .ret
    | some (.bl false) => exH x r ρ S
    | _ => none
def offR (i : Option Nat) (ρ : Rho) : Rho := match i with
  | some i => ρ.set i none
  | none => ρ
/-- behind a suite that was tried -/
def triE (yes no : List Nat) (i : Option Nat) (h : Hs) : MoS → MoS
  | some (.er x ρ S) => if yes.contains x.c then (exH x h (offR i ρ) S).map fun f => .ok f (offR i ρ) S else if no.contains x.c then some (.er x ρ S) else none
  | r => r
section
variable (R : Nat → List D → Sto → Mo D) (G : List D) (w : Nat)
mutual
def ex : Sm → Rho → Sto → MoS
  | .pass, ρ, S => some (.ok .nx ρ S)
  | .brk, ρ, S => some (.ok .brk ρ S)
  | .cnt, ρ, S => some (.ok .ct ρ S)
  | .expr e, ρ, S => bnS ρ (ev R G e false ρ S) fun _ S1 => some (.ok .nx ρ S1)
  | .ret e, ρ, S => bnS ρ (ev R G e false ρ S) fun d S1 => some (.ok (.ret d) ρ S1)
  | .retn, ρ, S => some (.ok (.ret .non) ρ S)
  | .asg t e, ρ, S => bnS ρ (ev R G e false ρ S) fun d S1 => nxS ((asgT t d ρ).map fun ρ1 => (ρ1, S1))
  | .seti o i e, ρ, S => bnS ρ (ev R G e false ρ S) fun v S1 => bnS ρ (ev R G o false ρ S1) fun x S2 => bnS ρ (ev R G i false ρ S2) fun y S3 => nxS ((seti S3 x y v).map fun S4 => (ρ, S4))
  | .dpt o a e, ρ, S => bnS ρ (ev R G e false ρ S) fun v S1 => bnS ρ (ev R G o false ρ S1) fun x S2 => bnS ρ (ev R G a false ρ S2) fun y S3 => nxS ((setQ S3 x y v).map fun S4 => (ρ, S4))
  | .sfl o f cs e, ρ, S => bnS ρ (ev R G e false ρ S) fun v S1 => bnS ρ (ev R G o false ρ S1) fun x S2 => nxS ((sfl1 cs f S2 x v).map fun S3 => (ρ, S3))
  | .afl o f c p e, ρ, S => bnS ρ (ev R G o false ρ S) fun x S1 => match fld1 [c] f S1 x with
    | some z => bnS ρ (ev R G e false ρ S1) fun v S2 => nxS ((aug p S2 z v).bind fun u => (sfl1 [c] f S2 x u).map fun S3 => (ρ, S3))
    | none => none
  | .par i j a b, ρ, S => bnS ρ (ev R G a false ρ S) fun x S1 => bnS ρ (ev R G b false ρ S1) fun y S2 => some (.ok .nx ((ρ.set i (some x)).set j (some y)) S2)
  | .aug i o e, ρ, S => match ρ[i]? with
    | some (some x) => bnS ρ (ev R G e false ρ S) fun y S1 => nxS ((aug o S1 x y).map fun z => (ρ.set i (some z), S1))
    | _ => none
  | .iff c a b, ρ, S => bnS ρ (ev R G c true ρ S) fun x S1 => match x with
    | .bl true => exs a ρ S1
    | .bl false => exs b ρ S1
    | _ => none
  | .for t k as b, ρ, S => bnS ρ (evs R G as ρ S) fun ds S1 => match it1 S1 k ds with
    | some j => forL t j (fun ρ S => exs b ρ S) (lenI j S1 + 1) 0 ρ S1
    | none => none
  | .agi o i p e, ρ, S => bnS ρ (ev R G o false ρ S) fun x S1 => bnS ρ (ev R G i false ρ S1) fun y S2 => match getL S2 x y with
    | some z => bnS ρ (ev R G e false ρ S2) fun v S3 => nxS ((aug p S3 z v).bind fun u => (seti S3 x y u).map fun S4 => (ρ, S4))
    | none => none
  | .rse c f e, ρ, S => bnS ρ (ev R G e false ρ S) fun d S1 => if okD d then some (.er ⟨c, [(f, d)]⟩ ρ S1) else none
  | .tri b yes no i h, ρ, S => triE yes no i h (exs b ρ S)
  | .whl c b, ρ, S => whL (fun ρ S => ev R G c true ρ S) (fun ρ S => exs b ρ S) w ρ S
def exs : Sms → Rho → Sto → MoS
  | .nil, ρ, S => some (.ok .nx ρ S)
  | .cons s r, ρ, S => match ex s ρ S with
    | some (.ok .nx ρ1 S1) => exs r ρ1 S1
    | x => x
end
end
/-- a def: its parameters, its names, its body -/
structure Fn where
  np : Nat
  nn : Nat
  body : Sms
def enter (F : Fn) (ds : List D) : Rho := ds.map some ++ List.replicate (F.nn - ds.length) none
def leave (r : MoS) : Mo D := match r with
  | some (.ok .nx _ S) => some (.ok .non S)
  | some (.ok (.ret d) _ S) => some (.ok d S)
  | some (.er x _ S) => some (.er x S)
  | _ => none
/-- k: how many calls may stand one in another; w: how many turns a while may take -/
def run (Fs : List Fn) (G : List D) (w : Nat) : Nat → Nat → List D → Sto → Mo D
  | 0, _, _, _ => none
  | k + 1, f, ds, S => match Fs[f]? with
    | some F => if ds.length = F.np then leave (exs (run Fs G w k) G w F.body (enter F ds) S) else none
    | none => none

/-! ### from the text -/
structure Tb where
  fn : List Str
  bis : List Str
  mth : List Str
  gl : List Str
  gd : List (Str × List (Str × D))
  df : List (Str × Nat × List D)
  xc : List (Str × Nat × Str) := []
  xh : List (Str × List Nat × List Nat) := []
  xf : List Str := []
  cl : List (Str × Nat × Nat) := []
  me : List (Str × Nat × Nat) := []
  fd : List (Str × List Nat) := []
def gli (sc : Scope) (x : Str) : Bool := decide (sc.names.lookup x = some .globalImplicit) && !(x == ("__debug__" : Str)) && !(x == ("__name__" : Str))
def vis (sc : Scope) (x : Str) : Bool := (decide (sc.names.lookup x = some .local) || decide (sc.names.lookup x = some .cell) || decide (sc.names.lookup x = some .free)) && !(x == ("__debug__" : Str)) && !(x == ("__classdict__" : Str))
def loc (B : Bool) (sc : Scope) (x : Str) : Bool := decide (sc.names.lookup x = some .local) || (!B && decide (sc.names.lookup x = some .cell))
def biOf (x : Str) : Option Bi :=
  if x = ("len" : Str) then some .len else if x = ("abs" : Str) then some .abs else if x = ("int" : Str) then some .int else if x = ("sum" : Str) then some .sum
  else if x = ("min" : Str) then some .min else if x = ("max" : Str) then some .max else if x = ("list" : Str) then some .list else if x = ("tuple" : Str) then some .tuple
  else if x = ("repr" : Str) then some .repr else if x = ("bool" : Str) then some .bool else if x = ("all" : Str) then some .all else if x = ("any" : Str) then some .any else none
def mbOf (x : Str) : Option Bi := if x = ("gcd" : Str) then some .gcd else if x = ("lcm" : Str) then some .lcm else none
def tyOf (x : Str) : Option Ty :=
  if x = ("int" : Str) then some .int else if x = ("bool" : Str) then some .bool else if x = ("str" : Str) then some .str else if x = ("list" : Str) then some .list
  else if x = ("tuple" : Str) then some .tuple else none
def mtOf (x : Str) : Option Mt := if x = ("append" : Str) then some .append else if x = ("extend" : Str) then some .extend else if x = ("pop" : Str) then some .pop else none
def b2Of : Operator → Option B2
  | .Add => some .add | .Sub => some .sub | .Mult => some .mul | .FloorDiv => some .fdiv | .Mod => some .mod | .Pow => some .pow | .LShift => some .shl | .RShift => some .shr
  | _ => none
def auOf : Operator → Option B2
  | .Add => some .add | .Sub => some .sub
  | _ => none
def cmOf : CmpOp → Option Cm
  | .Eq => some .eq | .NotEq => some .ne | .Lt => some .lt | .LtE => some .le | .Gt => some .gt | .GtE => some .ge | .Is => some .is | .IsNot => some .isnot | .In => some .isin | .NotIn => some .notin
def noStar : Expr → Bool
  | .Starred .. => false
  | _ => true
def noSlice : Expr → Bool
  | .Slice .. => false
  | _ => true
/-- [::-1] -/
def revSl : Expr → Bool
  | .Slice none none (some (.UnaryOp .USub (.Constant (.int 1) _ _) _)) _ => true
  | _ => false
def noComp : Expr → Bool
  | .ListComp .. => false
  | .SetComp .. => false
  | .DictComp .. => false
  | _ => true
def noSuper : Expr → Bool
  | .Call (.Name ..) [] [] _ => false
  | _ => true
def noSet : Expr → Bool
  | .Set .. => false
  | _ => true
def noTuple : Expr → Bool
  | .Tuple .. => false
  | _ => true
def cpL (f : Expr → Option Ex) : List Expr → Option Exs
  | [] => some .nil
  | e :: es => if noStar e then match f e, cpL f es with
      | some m, some ms => some (.cons m ms)
      | _, _ => none
    else none
/-- .. where stars may stand -/
def cpLs (f : Expr → Option Ex) : List Expr → Option Exs
  | [] => some .nil
  | .Starred e _ :: es => match f e, cpLs f es with
    | some m, some ms => some (.star m ms)
    | _, _ => none
  | e :: es => if noStar e then match f e, cpLs f es with
      | some m, some ms => some (.cons m ms)
      | _, _ => none
    else none
def isTup : Expr → Bool
  | .Tuple .. => true
  | _ => false
/-- what is zipped in list(zip(..)) -/
def zipArgs (T : Tb) (sc : Scope) (x : Str) : Expr → List Expr → Option (List Expr)
  | .Call (.Name y _) [b, c] [] _, [] => if x = ("list" : Str) ∧ y = ("zip" : Str) ∧ gli sc y = true ∧ T.bis.contains y = true then some [b, c] else none
  | _, _ => none
/-- the dict of list(d.values()) -/
def dvlOf (T : Tb) (sc : Scope) (x : Str) : Expr → List Expr → Option Expr
  | .Call (.Attribute d m ap) [] [] p, [] => if x = ("list" : Str) ∧ m = ("values" : Str) ∧ (ap.endLine == p.line) = true ∧ noSuper d = true then some d else none
  | _, _ => none
/-- the list of d[tuple(l)] -/
def dptOf (T : Tb) (sc : Scope) : Expr → Option Expr
  | .Call (.Name x _) [a] [] _ => if x = ("tuple" : Str) ∧ gli sc x = true ∧ T.bis.contains x = true ∧ noStar a = true then some a else none
  | _ => none
/-- a written dict that is asked -/
def dictOf (T : Tb) (sc : Scope) : Expr → Str → Option (List (Str × D))
  | .Name x _, m => if m = ("get" : Str) ∧ gli sc x = true then T.gd.lookup x else none
  | _, _ => none
def slot (N : List Str) (x : Str) : Option Nat := if N.contains x then some (N.idxOf x) else none
def cpNs (N : List Str) (B : Bool) (sc : Scope) : List Expr → Option (List Nat)
  | [] => some []
  | .Name x _ :: es => if loc B sc x then match slot N x, cpNs N B sc es with
      | some i, some is => some (i :: is)
      | _, _ => none
    else none
  | _ => none
def cpT (N : List Str) (B : Bool) (sc : Scope) : Expr → Option Tg
  | .Name x _ => if loc B sc x then (slot N x).map .nm else none
  | .Tuple es _ _ => (cpNs N B sc es).map .ns
  | _ => none
/-- the iterable: range(..), or a value -/
def cpI (T : Tb) (sc : Scope) (tt : Bool) (f : Expr → Option Ex) : Expr → Option (Ib × Exs)
  | .Call (.Name x p) (a :: r) [] pos => if x = ("range" : Str) ∧ gli sc x = true ∧ T.bis.contains x = true ∧ r.length ≤ 1 then (cpL f (a :: r)).map fun m => (.rng, m) else if x = ("reversed" : Str) ∧ gli sc x = true ∧ T.bis.contains x = true ∧ r.length = 0 ∧ noStar a = true then (f a).map fun m => (.rev, .cons m .nil) else if x = ("zip" : Str) ∧ gli sc x = true ∧ T.bis.contains x = true ∧ tt = true ∧ r.length = 1 then (cpL f (a :: r)).map fun m => (.zip, m) else (f (.Call (.Name x p) (a :: r) [] pos)).map fun m => (.val, .cons m .nil)
  | e => if noStar e && noSet e then (f e).map fun m => (.val, .cons m .nil) else none
def ownOf (N : List Str) : Expr → List (Str × Nat)
  | .Name x _ => [(x, N.idxOf x)]
  | .Tuple es _ _ => es.filterMap fun
    | .Name x _ => some (x, N.idxOf x)
    | _ => none
  | _ => []
def cp (T : Tb) (N : List Str) : Nat → Bool → Scope → Expr → Option Ex
  | 0, _, _, _ => none
  | n + 1, B, sc, e => match e with
    | .Name x _ => if vis sc x then (slot N x).map .var else if gli sc x && T.gl.contains x then some (.glb (T.gl.idxOf x)) else none
    | .Constant (.int i) _ _ => some (.cst (.int i))
    | .Constant (.bool b) _ _ => some (.cst (.bl b))
    | .Constant (.str x) _ _ => some (.cst (.str x))
    | .Constant .none _ _ => some (.cst .non)
    | .BinOp a op b _ => match b2Of op, cp T N n B sc a, cp T N n B sc b with
      | some o, some x, some y => some (.bin o x y)
      | _, _, _ => none
    | .UnaryOp .USub a _ => (cp T N n B sc a).map .neg
    | .UnaryOp .Not a _ => (cp T N n B sc a).map .nt
    | .Compare a [op] [b] _ => if behindInMarks op b = false then match cmOf op, cp T N n B sc a, cp T N n B sc b with
        | some o, some x, some y => some (.cmp o x y)
        | _, _, _ => none
      else none
    | .Compare a [op, op'] [b, c] _ => if lastMarks [op, op'] [b, c] = false then match cmOf op, cmOf op', cp T N n B sc a, cp T N n B sc b, cp T N n B sc c with
        | some o, some o', some x, some y, some z => some (.chn o o' x y z)
        | _, _, _, _, _ => none
      else none
    | .BoolOp .And (a :: b :: rest) p => match cp T N n B sc a, cp T N n B sc (.BoolOp .And (b :: rest) p) with
      | some x, some y => some (.an x y)
      | _, _ => none
    | .BoolOp .Or (a :: b :: rest) p => match cp T N n B sc a, cp T N n B sc (.BoolOp .Or (b :: rest) p) with
      | some x, some y => some (.or x y)
      | _, _ => none
    | .BoolOp _ [a] _ => cp T N n B sc a
    | .IfExp c a b _ => match cp T N n B sc c, cp T N n B sc a, cp T N n B sc b with
      | some x, some y, some z => some (.ite x y z)
      | _, _, _ => none
    | .Call (.Name x _) [] [] _ => if gli sc x then match T.cl.lookup x with
        | some (c, i) => some (.mk c i .nil)
        | none => if T.fn.contains x && (T.df.lookup x).isNone then some (.cal (T.fn.idxOf x) .nil) else none
      else none
    | .Call (.Name x _) (a :: as) [] _ => if gli sc x then match T.cl.lookup x with
      | some (c, i) => (cpL (cp T N n B sc) (a :: as)).map (.mk c i)
      | none =>
        if T.fn.contains x then match T.df.lookup x with
          | some (n0, ds) => if as.length + 1 = n0 then (cpL (cp T N n B sc) (a :: as)).map fun m => .cad (T.fn.idxOf x) m ds else (cpL (cp T N n B sc) (a :: as)).map (.cal (T.fn.idxOf x))
          | none => (cpL (cp T N n B sc) (a :: as)).map (.cal (T.fn.idxOf x))
        else if T.bis.contains x then
          if x = ("isinstance" : Str) then match as with
            | [.Name t _] => if gli sc t && T.bis.contains t then match tyOf t, cp T N n B sc a with
                | some ty, some m => if noStar a then some (.isi m ty) else none
                | _, _ => none
              else none
            | _ => none
          else match dvlOf T sc x a as with
          | some d => (cp T N n B sc d).map (.o1 .dvl)
          | none => match zipArgs T sc x a as with
          | some l => (cpL (cp T N n B sc) l).map .lz
          | none => match biOf x, cpL (cp T N n B sc) (a :: as) with
            | some b, some m => some (.bi b m)
            | _, _ => none
        else if T.mth.contains x then match mbOf x, cpL (cp T N n B sc) (a :: as) with
            | some b, some m => some (.bi b m)
            | _, _ => none
        else none
      else none
    | .Call (.Attribute o m ap) as [] p => match dictOf T sc o m with
      | some kvs => if (ap.endLine == p.line) && decide (as.length < 20) then (cpL (cp T N n B sc) as).map (.dg kvs) else none
      | none => if noSuper o && (ap.endLine == p.line) && decide (as.length < 20) then match T.me.lookup m with
        | some (c, i) => match cp T N n B sc o, cpL (cp T N n B sc) as with
          | some x, some xs => some (.met m c i x xs)
          | _, _ => none
        | none => if m = ("bit_length" : Str) ∧ as = [] then (cp T N n B sc o).map (.o1 .bits) else match mtOf m, cp T N n B sc o, cpL (cp T N n B sc) as with
        | some k, some x, some xs => some (.mth k x xs)
        | _, _, _ => none
      else none
    | .Subscript a (.Slice lo hi none _) _ => match cp T N n B sc a, (match lo with
        | none => some .nil
        | some l => (cp T N n B sc l).map fun m => .cons m .nil), (match hi with
        | none => some .nil
        | some h => (cp T N n B sc h).map fun m => .cons m .nil) with
      | some x, some l, some h => some (.slc x l h)
      | _, _, _ => none
    | .Subscript a b _ => if revSl b then (cp T N n B sc a).map .rvs else if noSlice b then match cp T N n B sc a, cp T N n B sc b with
        | some x, some y => some (.idx x y)
        | _, _ => none
      else none
    | .Attribute o f _ => if noSuper o then match T.fd.lookup f, cp T N n B sc o with
        | some cs, some x => some (.fld x f cs)
        | _, _ => none
      else none
    | .Dict [] [] _ => some .dn
    | .Tuple es _ _ => (cpLs (cp T N n B sc) es).map .tup
    | .List es _ => (cpL (cp T N n B sc) es).map .lst
    | .ListComp elt [⟨tg, it, ifs, a⟩] scope _ => if blkC N sc scope (ownOf N tg) && decide (ifs.length ≤ 1) && decide (a = 0) then
        match cpI T sc (isTup tg) (cp T N n B sc) it, cpT N true (relS scope sc) tg, cp T N n true (relS scope sc) elt, cpL (cp T N n true (relS scope sc)) ifs with
        | some (k, as), some t, some m, some fs => some (.lc m ((ownOf N tg).map (·.2)) t k as fs)
        | _, _, _, _ => none
      else none
    | _ => none
def noIf : Expr → Bool
  | .IfExp .. => false
  | _ => true
/-- in an except suite, n: what was caught -/
def cpH (T : Tb) (N : List Str) (sc : Scope) (n : Option Str) : Nat → Expr → Option Hx
  | 0, _ => none
  | k + 1, e => match e with
    | .Name x _ => if vis sc x && !(decide (n = some x)) then (slot N x).map .var else none
    | .Constant (.int i) _ _ => some (.cst (.int i))
    | .Constant (.bool b) _ _ => some (.cst (.bl b))
    | .Constant (.str x) _ _ => some (.cst (.str x))
    | .Constant .none _ _ => some (.cst .non)
    | .Attribute (.Name x _) f _ => if decide (n = some x) && vis sc x && T.xf.contains f then some (.fld f) else none
    | .Compare a [op] [b] _ => if behindInMarks op b = false then match cmOf op, cpH T N sc n k a, cpH T N sc n k b with
        | some o, some x, some y => some (.cmp o x y)
        | _, _, _ => none
      else none
    | .UnaryOp .USub a _ => (cpH T N sc n k a).map .neg
    | .UnaryOp .Not a _ => if noIf a then (cpH T N sc n k a).map .nt else none
    | .BoolOp .And (a :: b :: rest) p => if noIf a then match cpH T N sc n k a, cpH T N sc n k (.BoolOp .And (b :: rest) p) with
        | some x, some y => some (.an x y)
        | _, _ => none
      else none
    | .BoolOp .Or (a :: b :: rest) p => if noIf a then match cpH T N sc n k a, cpH T N sc n k (.BoolOp .Or (b :: rest) p) with
        | some x, some y => some (.or x y)
        | _, _ => none
      else none
    | .BoolOp _ [a] _ => if noIf a then cpH T N sc n k a else none
    | .IfExp c a b _ => if noIf c then match cpH T N sc n k c, cpH T N sc n k a, cpH T N sc n k b with
        | some x, some y, some z => some (.ite x y z)
        | _, _, _ => none
      else none
    | .Subscript a b _ => if noSlice b then match cpH T N sc n k a, cpH T N sc n k b with
        | some x, some y => some (.idx x y)
        | _, _ => none
      else none
    | _ => none
def cpHs (T : Tb) (N : List Str) (sc : Scope) (n : Option Str) (k : Nat) : List Stmt → Option Hs
  | [] => some .nil
  | [.Return (some e) _] => (cpH T N sc n k e).map .ret
  | [.Return none _] => some .retn
  | .If c [.Return (some e) _] [] _ :: r => if noIf c then match cpH T N sc n k c, cpH T N sc n k e, cpHs T N sc n k r with
      | some x, some y, some z => some (.iff x y z)
      | _, _, _ => none
    else none
  | _ => none
def tryOf : List ExceptHandler → List Stmt → List Stmt → Option (Str × Option Str × Stmt × List Stmt)
  | [.ExceptHandler (some (.Name x _)) n (b0 :: su) _], [], [] => some (x, n, b0, su)
  | _, _, _ => none
def asOf (N : List Str) (sc : Scope) : Option Str → Option (Option Nat)
  | none => some none
  | some n => if loc true sc n then (slot N n).map some else none
/-- a store of a comprehension's list to a plain local name goes another way -/
def swB (sc : Scope) (e : Expr) (x : Str) (p : Pos) : Bool := match e with
  | .ListComp _ _ scope pos => decide (sc.names.lookup x = some .local) && (p.line == pos.line) && !(scope.names.any fun (n, k) => n == x && (k == .local || k == .cell))
  | _ => false
/-- `x, y = a, b` over two locals -/
def parOf (sc : Scope) : List Expr → Expr → Option (Str × Str × Expr × Expr)
  | [.Name x px, .Name y py], .Tuple [a, b] _ _ =>
    if loc true sc x && loc true sc y && decide (px.line = py.line) && !(x == y) && noStar a && noStar b && !(foldedForSure 8 a && foldedForSure 8 b) && !(constantsAlone 8 a && constantsAlone 8 b) then some (x, y, a, b) else none
  | _, _ => none
def cpS (T : Tb) (N : List Str) (n : Nat) : Nat → Scope → Stmt → Option Sm
  | 0, _, _ => none
  | q + 1, sc, s =>
    let c := cp T N n false sc
    let body : List Stmt → Option Sms := fun l => l.foldr (fun s r => match cpS T N n q sc s, r with
      | some a, some b => some (.cons a b)
      | _, _ => none) (some .nil)
    match s with
    | .Pass _ => some .pass
    | .Break _ => some .brk
    | .Continue _ => some .cnt
    | .Expr e _ => if noComp e then (c e).map .expr else none
    | .Return (some e) _ => (c e).map .ret
    | .Return none _ => some .retn
    | .Assign [.Name x p] e _ => match cpT N false sc (.Name x p), c e with
      | some t, some m => some (.asg t m)
      | _, _ => none
    | .Assign [.Tuple ts k p] e _ => match parOf sc ts e with
      | some (x, y, a, b) => match slot N x, slot N y, c a, c b with
        | some i, some j, some m, some m' => some (.par i j m m')
        | _, _, _, _ => none
      | none => if noTuple e && noComp e then match cpT N false sc (.Tuple ts k p), c e with
        | some t, some m => some (.asg t m)
        | _, _ => none
      else none
    | .Assign [.Subscript o i _] e _ => if noSlice i && noComp e then match dptOf T sc i with
        | some a => match c o, c a, c e with
          | some x, some y, some z => some (.dpt x y z)
          | _, _, _ => none
        | none => match c o, c i, c e with
          | some x, some y, some z => some (.seti x y z)
          | _, _, _ => none
      else none
    | .Assign [.Attribute o f _] e _ => if noComp e then match T.fd.lookup f, c o, c e with
        | some cs, some x, some z => some (.sfl x f cs z)
        | _, _, _ => none
      else none
    | .AugAssign (.Attribute o f _) op e _ => match T.fd.lookup f, c o, auOf op, c e with
      | some [c], some x, some p, some m => some (.afl x f c p m)
      | _, _, _, _ => none
    | .AugAssign (.Name x _) op e _ => if loc false sc x then match slot N x, auOf op, c e with
        | some i, some o, some m => some (.aug i o m)
        | _, _, _ => none
      else none
    | .AugAssign (.Subscript o i _) op e _ => if noSlice i then match c o, c i, auOf op, c e with
        | some x, some y, some p, some m => some (.agi x y p m)
        | _, _, _, _ => none
      else none
    | .If e a b _ => match c e, body a, body b with
      | some m, some x, some y => some (.iff m x y)
      | _, _, _ => none
    | .For tg it b [] _ => match cpI T sc (isTup tg) c it, cpT N false sc tg, body b with
      | some (k, as), some t, some y => some (.for t k as y)
      | _, _, _ => none
    | .Raise (some (.Call (.Name x _) [a] [] _)) none _ => if gli sc x && noStar a then match T.xc.lookup x, c a with
        | some (i, f), some m => some (.rse i f m)
        | _, _ => none
      else none
    | .Try b hs o f _ => match tryOf hs o f with
      | some (x, n, b0, su) => if gli sc x then match T.xh.lookup x, body b, cpHs T N sc n 20 (b0 :: su), asOf N sc n with
          | some (yes, no), some y, some h, some i => some (.tri y yes no i h)
          | _, _, _, _ => none
        else none
      | none => none
    | .While e b [] _ => match c e, body b with
      | some m, some y => some (.whl m y)
      | _, _ => none
    | _ => none
def cpB (T : Tb) (N : List Str) (n q : Nat) (sc : Scope) (l : List Stmt) : Option Sms := l.foldr (fun s r => match cpS T N n q sc s, r with
      | some a, some b => some (.cons a b)
      | _, _ => none) (some .nil)
end Mx
set_option Elab.async false
set_option linter.all false
set_option maxRecDepth 100000
set_option maxHeartbeats 6500000
/-! the machine's data in the layer's heap -/
namespace Mx
open L2 PySem PySem.Spec PyProof.Rows
def fx : HO → Bool
  | .tup _ => true
  | .frz _ _ => true
  | .xd _ => true
  | _ => false
def Le (φ : List Addr) (H : Hp) (φ' : List Addr) (H' : Hp) : Prop := (∃ l, φ' = φ ++ l) ∧ ∀ a o, fx o = true → H a = some o → H' a = some o
theorem Le.refl (φ : List Addr) (H : Hp) : Le φ H φ H := ⟨⟨[], by simp⟩, fun _ _ _ h => h⟩
theorem Le.trans {φ φ1 φ2 : List Addr} {H H1 H2 : Hp} (a : Le φ H φ1 H1) (b : Le φ1 H1 φ2 H2) : Le φ H φ2 H2 := by
  obtain ⟨⟨l, rfl⟩, ha⟩ := a
  obtain ⟨⟨m, rfl⟩, hb⟩ := b
  exact ⟨⟨l ++ m, by simp⟩, fun c o h e => hb c o h (ha c o h e)⟩
theorem Le.get {φ φ' : List Addr} {H H' : Hp} (a : Le φ H φ' H') {i : Nat} {x : Addr} (h : φ[i]? = some x) : φ'[i]? = some x := by
  obtain ⟨⟨l, rfl⟩, _⟩ := a
  rw [List.getElem?_append_left (List.getElem?_eq_some_iff.mp h).1]
  exact h
theorem Le.heap {φ : List Addr} {H H' : Hp} (h : ∀ a o, fx o = true → H a = some o → H' a = some o) : Le φ H φ H' := ⟨⟨[], by simp⟩, h⟩
theorem Le.new {φ : List Addr} {H : Hp} {p : Addr} {o : HO} (n : H p = none) : Le φ H φ (upd H p o) := .heap fun a u _ e => by
  rw [upd_ne (ne_of_none e n)]
  exact e
theorem Le.mut {φ : List Addr} {H : Hp} {p : Addr} {xs : List V} {o : HO} (n : H p = some (.lst xs)) : Le φ H φ (upd H p o) := .heap fun a u f e => by
  rw [upd_ne (ne_of e n (by intro z; subst z; cases f))]
  exact e
theorem Le.mutO {φ : List Addr} {H : Hp} {p : Addr} {u o : HO} (n : H p = some u) (hu : fx u = false) : Le φ H φ (upd H p o) := .heap fun a v f e => by
  rw [upd_ne (ne_of e n (by intro z; subst z; rw [hu] at f; cases f))]
  exact e
theorem Le.more {φ : List Addr} {H : Hp} (l : List Addr) : Le φ H (φ ++ l) H := ⟨⟨l, rfl⟩, fun _ _ _ h => h⟩
section
variable (K : PySem.W.Frag) (ca : Nat → Addr)
theorem sqT_le {φ φ' : List Addr} {H H' : Hp} {a : Addr} {xs : List V} (e : Le φ H φ' H') (h : SqT K H a xs) : SqT K H' a xs := by
  (rcases h with (h | ⟨o, h⟩) | h)
  · exact .inl (.inl (e.2 _ _ rfl h))
  · exact .inl (.inr ⟨o, e.2 _ _ rfl h⟩)
  · exact .inr h
mutual
inductive RV (φ : List Addr) (H : Hp) : D → V → Prop
  | non : RV φ H .non .non
  | bl (b : Bool) : RV φ H (.bl b) (.bl b)
  | int (i : Int) : RV φ H (.int i) (.int i)
  | str (x : Str) : RV φ H (.str x) (.str x)
  | tup {a : Addr} {xs : List V} {l : List D} : SqT K H a xs → RVs φ H l xs → RV φ H (.tup l) (.ref a)
  | ref {i : Nat} {a : Addr} : φ[i]? = some a → RV φ H (.ref i) (.ref a)
inductive RVs (φ : List Addr) (H : Hp) : List D → List V → Prop
  | nil : RVs φ H [] []
  | cons {d : D} {v : V} {ds : List D} {vs : List V} : RV φ H d v → RVs φ H ds vs → RVs φ H (d :: ds) (v :: vs)
end
variable {K ca}
mutual
theorem RV.mono {φ φ' : List Addr} {H H' : Hp} (e : Le φ H φ' H') : ∀ {d : D} {v : V}, RV K φ H d v → RV K φ' H' d v
  | _, _, .non => .non
  | _, _, .bl b => .bl b
  | _, _, .int i => .int i
  | _, _, .str x => .str x
  | _, _, .tup s r => .tup (sqT_le K e s) (RVs.mono e r)
  | _, _, .ref h => .ref (e.get h)
theorem RVs.mono {φ φ' : List Addr} {H H' : Hp} (e : Le φ H φ' H') : ∀ {ds : List D} {vs : List V}, RVs K φ H ds vs → RVs K φ' H' ds vs
  | _, _, .nil => .nil
  | _, _, .cons r t => .cons (r.mono e) (RVs.mono e t)
end
theorem RVs.length {φ : List Addr} {H : Hp} : ∀ {ds : List D} {vs : List V}, RVs K φ H ds vs → ds.length = vs.length
  | _, _, .nil => rfl
  | _, _, .cons _ t => congrArg (· + 1) (RVs.length t)
theorem RVs.get {φ : List Addr} {H : Hp} : ∀ {ds : List D} {vs : List V} {i : Nat} {d : D}, RVs K φ H ds vs → ds[i]? = some d → ∃ v, vs[i]? = some v ∧ RV K φ H d v
  | _, _, _, _, .nil, e => (by simp at e)
  | _, _, 0, _, .cons r _, e => (by simp at e; subst e; exact ⟨_, rfl, r⟩)
  | _, _, i + 1, d, .cons _ t, e => by
    obtain ⟨v, h1, h2⟩ := RVs.get (i := i) (d := d) t (by simpa using e)
    exact ⟨v, by simpa using h1, h2⟩
theorem RVs.append {φ : List Addr} {H : Hp} : ∀ {ds es : List D} {vs us : List V}, RVs K φ H ds vs → RVs K φ H es us → RVs K φ H (ds ++ es) (vs ++ us)
  | _, _, _, _, .nil, s => s
  | _, _, _, _, .cons r t, s => .cons r (RVs.append t s)
theorem RVs.take {φ : List Addr} {H : Hp} : ∀ {ds : List D} {vs : List V} (n : Nat), RVs K φ H ds vs → RVs K φ H (ds.take n) (vs.take n)
  | _, _, 0, _ => .nil
  | _, _, _ + 1, .nil => .nil
  | _, _, n + 1, .cons r t => .cons r (RVs.take n t)
theorem RVs.drop {φ : List Addr} {H : Hp} : ∀ {ds : List D} {vs : List V} (n : Nat), RVs K φ H ds vs → RVs K φ H (ds.drop n) (vs.drop n)
  | _, _, 0, r => r
  | _, _, _ + 1, .nil => .nil
  | _, _, n + 1, .cons _ t => RVs.drop n t
theorem RVs.set {φ : List Addr} {H : Hp} {x : D} {v : V} (r : RV K φ H x v) : ∀ {ds : List D} {vs : List V} (i : Nat), RVs K φ H ds vs → RVs K φ H (ds.set i x) (vs.set i v)
  | _, _, _, .nil => .nil
  | _, _, 0, .cons _ t => (.cons r t)
  | _, _, i + 1, .cons q t => .cons q (RVs.set r i t)
theorem RVs.dropLast {φ : List Addr} {H : Hp} : ∀ {ds : List D} {vs : List V}, RVs K φ H ds vs → RVs K φ H ds.dropLast vs.dropLast
  | _, _, .nil => .nil
  | _, _, .cons r .nil => .nil
  | _, _, .cons r (.cons q t) => .cons r (RVs.dropLast (.cons q t))
theorem RVs.rep {φ : List Addr} {H : Hp} {ds : List D} {vs : List V} (h : RVs K φ H ds vs) : ∀ k : Nat, RVs K φ H (List.replicate k ds).flatten (List.replicate k vs).flatten
  | 0 => .nil
  | k + 1 => by
    simp only [List.replicate_succ, List.flatten_cons]
    exact h.append (RVs.rep h k)
theorem RVs.reverse {φ : List Addr} {H : Hp} : ∀ {ds : List D} {vs : List V}, RVs K φ H ds vs → RVs K φ H ds.reverse vs.reverse
  | _, _, .nil => .nil
  | _, _, .cons r t => by
    rw [List.reverse_cons, List.reverse_cons]
    exact (RVs.reverse t).append (.cons r .nil)
theorem RVs.isEmpty {φ : List Addr} {H : Hp} {ds : List D} {vs : List V} (h : RVs K φ H ds vs) : ds.isEmpty = vs.isEmpty := by
  cases h <;> rfl
theorem RVs.atI {φ : List Addr} {H : Hp} {ds : List D} {vs : List V} (h : RVs K φ H ds vs) {i : Int} {d : D} (e : L2.atI ds i = some d) : ∃ v, L2.atI vs i = some v ∧ RV K φ H d v := by
  unfold L2.atI at e ⊢
  rw [← h.length]
  cases q : ixN ds.length i with
  | none => (rw [q] at e; cases e)
  | some j =>
    rw [q] at e
    exact h.get e
theorem RVs.cut {φ : List Addr} {H : Hp} {ds : List D} {vs : List V} (h : RVs K φ H ds vs) (lo hi : Option Int) : RVs K φ H (cutD ds lo hi) (cutV vs lo hi) := by
  unfold cutD cutV
  rw [← h.length]
  exact (h.drop _).take _
theorem RVs.ints {φ : List Addr} {H : Hp} : ∀ {ds : List D} {vs : List V} {ns : List Int}, RVs K φ H ds vs → intL ds = some ns → vs = ns.map V.int
  | [], _, ns, h, e => by
    cases h
    cases e
    rfl
  | .int i :: ds, _, ns, h, e => by
    cases h with
    | cons r t =>
      cases r
      simp only [intL, Option.map_eq_some_iff] at e
      obtain ⟨ms, e1, rfl⟩ := e
      rw [RVs.ints t e1]
      rfl
  | .non :: _, _, _, _, e => by cases e
  | .bl _ :: _, _, _, _, e => by cases e
  | .str _ :: _, _, _, _, e => by cases e
  | .tup _ :: _, _, _, _, e => by cases e
  | .ref _ :: _, _, _, _, e => by cases e
theorem RVs.bools {φ : List Addr} {H : Hp} : ∀ {ds : List D} {vs : List V} {bs : List Bool}, RVs K φ H ds vs → blL ds = some bs → vs = bs.map V.bl
  | [], _, ns, h, e => by
    cases h
    cases e
    rfl
  | .bl i :: ds, _, ns, h, e => by
    cases h with
    | cons r t =>
      cases r
      simp only [blL, Option.map_eq_some_iff] at e
      obtain ⟨ms, e1, rfl⟩ := e
      rw [RVs.bools t e1]
      rfl
  | .non :: _, _, _, _, e => by cases e
  | .int _ :: _, _, _, _, e => by cases e
  | .str _ :: _, _, _, _, e => by cases e
  | .tup _ :: _, _, _, _, e => by cases e
  | .ref _ :: _, _, _, _, e => by cases e
variable (K ca)
/-- a list that is only read: the script -/
def FzL (H : Hp) (a : Addr) (xs : List V) : Prop := SqL K (fun _ => none) a xs ∨ ∃ o, H a = some (.frz o (.lst xs))
def RFs (φ : List Addr) (H : Hp) (fs : List (Str × D)) (xs : List (Str × V)) : Prop := xs.map (·.1) = fs.map (·.1) ∧ RVs K φ H (fs.map (·.2)) (xs.map (·.2))
def RO (φ : List Addr) (H : Hp) (a : Addr) : Ob → Prop
  | .lst l => ∃ xs, H a = some (.lst xs) ∧ RVs K φ H l xs
  | .frz l => ∃ xs, FzL K H a xs ∧ RVs K φ H l xs
  | .ins c fs => ∃ dx xs, H a = some (.ins (ca c) dx xs) ∧ RFs K φ H fs xs
  | .dct kvs => ∃ xs : List (List Key × V), H a = some (.dT xs) ∧ xs.map (·.1) = kvs.map (fun p => p.1.map Sum.inl) ∧ RVs K φ H (kvs.map (·.2)) (xs.map (·.2))
def isM : Ob → Bool
  | .frz _ => false
  | _ => true
structure RS (φ : List Addr) (H : Hp) (S : Sto) : Prop where
  len : φ.length = S.length
  ob : ∀ (i : Nat) (o : Ob) (a : Addr), S[i]? = some o → φ[i]? = some a → RO K ca φ H a o
  inj : ∀ (i j : Nat) (o u : Ob) (a : Addr), S[i]? = some o → S[j]? = some u → isM o = true → isM u = true → φ[i]? = some a → φ[j]? = some a → i = j
def RE (φ : List Addr) (H : Hp) (ρ : Rho) (σ : L2.St) : Prop := ρ.length = σ.length ∧ ∀ (i : Nat) (d : D), ρ[i]? = some (some d) → ∃ v, σ[i]? = some (some v) ∧ RV K φ H d v
def RX (φ : List Addr) (H : Hp) (x : Exn) (c : Value) (dd : Option Addr) : Prop := c = .ref (ca x.c) ∧ ((∃ dx xs, dd = some dx ∧ H dx = some (.xd xs) ∧ RFs K φ H x.fs xs) ∨ (dd = none ∧ x.fs = []))
variable {K ca}
section
variable {φ φ' : List Addr} {H H' : Hp} {S : Sto} {ρ : Rho} {σ : L2.St}
theorem FzL.seq {a : Addr} {xs : List V} (h : FzL K H a xs) : SqL K H a xs := by
  rcases h with h | ⟨o, h⟩
  · rcases h with (h | ⟨o, h⟩) | h
    · cases h
    · cases h
    · exact .inr h
  · exact .inl (.inr ⟨o, h⟩)
theorem FzL.mono (e : Le φ H φ' H') {a : Addr} {xs : List V} (h : FzL K H a xs) : FzL K H' a xs := by
  rcases h with h | ⟨o, h⟩
  · exact .inl h
  · exact .inr ⟨o, e.2 _ _ rfl h⟩
theorem RE.mono (h : RE K φ H ρ σ) (e : Le φ H φ' H') : RE K φ' H' ρ σ := ⟨h.1, fun i d q => by
  obtain ⟨v, h1, h2⟩ := h.2 i d q
  exact ⟨v, h1, h2.mono e⟩⟩
theorem RE.set (h : RE K φ H ρ σ) (i : Nat) {d : D} {v : V} (r : RV K φ H d v) : RE K φ H (ρ.set i (some d)) (σ.set i (some v)) := by
  refine ⟨by simp [h.1], fun j d' q => ?_⟩
  by_cases e : i = j
  · subst e
    have hl : i < ρ.length := by
      have := (List.getElem?_eq_some_iff.mp q).1
      simpa using this
    rw [List.getElem?_set_self hl] at q
    cases q
    exact ⟨v, List.getElem?_set_self (by rw [← h.1]; exact hl), r⟩
  · rw [List.getElem?_set_ne e] at q ⊢
    exact h.2 j d' q
theorem RE.drop (h : RE K φ H ρ σ) (i : Nat) : RE K φ H (ρ.set i none) (σ.set i none) := by
  refine ⟨by simp [h.1], fun j d' q => ?_⟩
  by_cases e : i = j
  · subst e
    have hl : i < ρ.length := by
      have := (List.getElem?_eq_some_iff.mp q).1
      simpa using this
    rw [List.getElem?_set_self hl] at q
    cases q
  · rw [List.getElem?_set_ne e] at q ⊢
    exact h.2 j d' q
theorem RE.wipe (h : RE K φ H ρ σ) : ∀ l : List Nat, RE K φ H (wipeD ρ l) (L2.wipe σ l)
  | [] => h
  | i :: l => (RE.wipe h l).drop i
theorem RS.at (h : RS K ca φ H S) {i : Nat} {o : Ob} (e : S[i]? = some o) : ∃ a, φ[i]? = some a ∧ RO K ca φ H a o := by
  have hl : i < φ.length := by rw [h.len]; exact (List.getElem?_eq_some_iff.mp e).1
  exact ⟨φ[i], List.getElem?_eq_getElem hl, h.ob i o _ e (List.getElem?_eq_getElem hl)⟩
theorem RS.lst (h : RS K ca φ H S) {i : Nat} {l : List D} {a : Addr} (e : lstOf S i = some l) (hi : φ[i]? = some a) : ∃ xs, SqL K H a xs ∧ RVs K φ H l xs := by
  unfold lstOf at e
  split at e
  · rename_i m q
    cases e
    obtain ⟨xs, h1, h2⟩ := h.ob _ _ _ q hi
    exact ⟨xs, .of h1, h2⟩
  · rename_i m q
    cases e
    obtain ⟨xs, h1, h2⟩ := h.ob _ _ _ q hi
    exact ⟨xs, h1.seq, h2⟩
  · cases e
theorem mutOf_at {i : Nat} {l : List D} (e : mutOf S i = some l) : S[i]? = some (.lst l) := by
  unfold mutOf at e
  split at e
  · rename_i m q
    cases e
    exact q
  · cases e
theorem RS.mut (h : RS K ca φ H S) {i : Nat} {l : List D} {a : Addr} (e : mutOf S i = some l) (hi : φ[i]? = some a) : ∃ xs, H a = some (.lst xs) ∧ RVs K φ H l xs := h.ob _ _ _ (mutOf_at e) hi
theorem RO.mono_at {a : Addr} {o : Ob} (e : Le φ H φ' H') (k : isM o = true → H' a = H a) (h : RO K ca φ H a o) : RO K ca φ' H' a o := by
  cases o with
  | lst l => obtain ⟨xs, h1, h2⟩ := h; exact ⟨xs, (k rfl).trans h1, h2.mono e⟩
  | frz l => obtain ⟨xs, h1, h2⟩ := h; exact ⟨xs, h1.mono e, h2.mono e⟩
  | ins c fs => obtain ⟨dx, xs, h1, h2, h3⟩ := h; exact ⟨dx, xs, (k rfl).trans h1, h2, h3.mono e⟩
  | dct kvs => obtain ⟨xs, h1, h2, h3⟩ := h; exact ⟨xs, (k rfl).trans h1, h2, h3.mono e⟩
theorem RO.some {a : Addr} {o : Ob} (h : RO K ca φ H a o) (m : isM o = true) : ∃ u, H a = some u := by
  cases o with
  | lst l => obtain ⟨xs, h1, _⟩ := h; exact ⟨_, h1⟩
  | frz l => cases m
  | ins c fs => obtain ⟨dx, xs, h1, _⟩ := h; exact ⟨_, h1⟩
  | dct kvs => obtain ⟨xs, h1, _⟩ := h; exact ⟨_, h1⟩
/-- an untracked new object -/
theorem RS.new (h : RS K ca φ H S) {p : Addr} {u : HO} (n : H p = none) : RS K ca φ (upd H p u) S := by
  refine ⟨h.len, fun i o a e ha => ?_, h.inj⟩
  have q := h.ob i o a e ha
  refine q.mono_at (Le.new n) fun m => ?_
  obtain ⟨v, hv⟩ := q.some m
  rw [upd_ne (ne_of_none hv n)]
/-- a new object that is tracked from now on -/
theorem RS.add (h : RS K ca φ H S) {p : Addr} {u : HO} {o : Ob} (n : H p = none) (m : isM o = true) (r : RO K ca φ (upd H p u) p o) : RS K ca (φ ++ [p]) (upd H p u) (S ++ [o]) := by
  have le : Le φ (upd H p u) (φ ++ [p]) (upd H p u) := Le.more [p]
  have old : ∀ (i : Nat) (o' : Ob) (a : Addr), S[i]? = Option.some o' → φ[i]? = Option.some a → isM o' = true → a ≠ p := fun i o' a e ha m' z => by
    obtain ⟨v, hv⟩ := (h.ob i o' a e ha).some m'
    rw [z, n] at hv
    cases hv
  refine ⟨by simp [h.len], fun i o' a e ha => ?_, fun i j o1 o2 a e1 e2 m1 m2 a1 a2 => ?_⟩
  · by_cases hi : i < S.length
    · rw [List.getElem?_append_left hi] at e
      rw [List.getElem?_append_left (by rw [h.len]; exact hi)] at ha
      exact ((h.new n).ob i o' a e ha).mono_at le fun _ => rfl
    · have hl := (List.getElem?_eq_some_iff.mp e).1
      have hi' : i = S.length := by simp at hl; omega
      subst hi'
      rw [List.getElem?_append_right (Nat.le_refl _)] at e
      rw [← h.len, List.getElem?_append_right (Nat.le_refl _)] at ha
      simp at e ha
      subst e ha
      exact r.mono_at le fun _ => rfl
  · have key : ∀ (i : Nat) (o' : Ob), (S ++ [o])[i]? = Option.some o' → isM o' = true → (φ ++ [p])[i]? = Option.some a → (i < S.length ∧ S[i]? = Option.some o' ∧ φ[i]? = Option.some a) ∨ (i = S.length ∧ a = p) := fun i o' e m' ha => by
      by_cases hi : i < S.length
      · rw [List.getElem?_append_left hi] at e
        rw [List.getElem?_append_left (by rw [h.len]; exact hi)] at ha
        exact .inl ⟨hi, e, ha⟩
      · have hl := (List.getElem?_eq_some_iff.mp e).1
        have hi' : i = S.length := by simp at hl; omega
        subst hi'
        rw [← h.len, List.getElem?_append_right (Nat.le_refl _)] at ha
        simp at ha
        exact .inr ⟨rfl, ha.symm⟩
    rcases key i o1 e1 m1 a1 with ⟨_, x1, y1⟩ | ⟨x1, y1⟩ <;> rcases key j o2 e2 m2 a2 with ⟨_, x2, y2⟩ | ⟨x2, y2⟩
    · exact h.inj i j o1 o2 a x1 x2 m1 m2 y1 y2
    · exact absurd y2 (old i o1 a x1 y1 m1)
    · exact absurd y1 (old j o2 a x2 y2 m2)
    · omega
theorem RS.addL (h : RS K ca φ H S) {p : Addr} {xs : List V} {l : List D} (n : H p = none) (r : RVs K φ H l xs) : RS K ca (φ ++ [p]) (upd H p (.lst xs)) (S ++ [.lst l]) :=
  h.add n rfl ⟨xs, upd_same, r.mono (Le.new n)⟩
theorem Le.add {p : Addr} {u : HO} (n : H p = none) : Le φ H (φ ++ [p]) (upd H p u) := (Le.new n).trans (Le.more [p])
/-- a list is written -/
theorem RS.put (h : RS K ca φ H S) {i : Nat} {a : Addr} {l m : List D} {xs ys : List V} (e : S[i]? = some (.lst l)) (ha : φ[i]? = some a) (hx : H a = some (.lst xs)) (r : RVs K φ H m ys) :
    RS K ca φ (upd H a (.lst ys)) (S.set i (.lst m)) := by
  have le : Le φ H φ (upd H a (.lst ys)) := Le.mut hx
  have hi : i < S.length := (List.getElem?_eq_some_iff.mp e).1
  refine ⟨by simp [h.len], fun j o b q hb => ?_, fun j k o u b e1 e2 m1 m2 b1 b2 => ?_⟩
  · by_cases hj : i = j
    · subst hj
      rw [List.getElem?_set_self hi] at q
      cases q
      rw [ha] at hb
      cases hb
      exact ⟨ys, upd_same, r.mono le⟩
    · rw [List.getElem?_set_ne hj] at q
      refine (h.ob j o b q hb).mono_at le fun m => upd_ne fun z => hj ?_
      subst z
      exact h.inj i j _ o _ e q rfl m ha hb
  · have key : ∀ (j : Nat) (o : Ob), (S.set i (.lst m))[j]? = some o → isM o = true → ∃ o' : Ob, S[j]? = some o' ∧ isM o' = true := fun j o q mo => by
      by_cases hj : i = j
      · subst hj
        exact ⟨_, e, rfl⟩
      · rw [List.getElem?_set_ne hj] at q
        exact ⟨o, q, mo⟩
    obtain ⟨o1, x1, y1⟩ := key j o e1 m1
    obtain ⟨o2, x2, y2⟩ := key k u e2 m2
    exact h.inj j k o1 o2 b x1 x2 y1 y2 b1 b2
/-- an object is written -/
theorem RS.putO (h : RS K ca φ H S) {i : Nat} {a : Addr} {o o' : Ob} {u u' : HO} (e : S[i]? = some o) (mo : isM o = true) (ha : φ[i]? = some a) (hx : H a = some u) (hu : fx u = false) (mo' : isM o' = true) (r : RO K ca φ (upd H a u') a o') :
    RS K ca φ (upd H a u') (S.set i o') := by
  have le : Le φ H φ (upd H a u') := Le.mutO hx hu
  have hi : i < S.length := (List.getElem?_eq_some_iff.mp e).1
  refine ⟨by simp [h.len], fun j ob b q hb => ?_, fun j k o1 o2 b e1 e2 m1 m2 b1 b2 => ?_⟩
  · by_cases hj : i = j
    · subst hj
      rw [List.getElem?_set_self hi] at q
      cases q
      rw [ha] at hb
      cases hb
      exact r
    · rw [List.getElem?_set_ne hj] at q
      refine (h.ob j ob b q hb).mono_at le fun m => upd_ne fun z => hj ?_
      subst z
      exact h.inj i j _ ob _ e q mo m ha hb
  · have key : ∀ (j : Nat) (ob : Ob), (S.set i o')[j]? = some ob → isM ob = true → ∃ ob' : Ob, S[j]? = some ob' ∧ isM ob' = true := fun j ob q mq => by
      by_cases hj : i = j
      · subst hj
        exact ⟨_, e, mo⟩
      · rw [List.getElem?_set_ne hj] at q
        exact ⟨ob, q, mq⟩
    obtain ⟨p1, x1, y1⟩ := key j o1 e1 m1
    obtain ⟨p2, x2, y2⟩ := key k o2 e2 m2
    exact h.inj j k p1 p2 b x1 x2 y1 y2 b1 b2
theorem insOf_at {i c : Nat} {fs : List (Str × D)} (e : insOf S i = some (c, fs)) : S[i]? = some (.ins c fs) := by
  unfold insOf at e
  split at e
  · rename_i m q
    cases e
    assumption
  · cases e
theorem dctOf_at {i : Nat} {kvs : List (List Int × D)} (e : dctOf S i = some kvs) : S[i]? = some (.dct kvs) := by
  unfold dctOf at e
  split at e
  · cases e
    assumption
  · cases e
theorem RFs.get {fs : List (Str × D)} {xs : List (Str × V)} (h : RFs K φ H fs xs) {f : Str} {d : D} (e : fs.lookup f = some d) : ∃ v, xs.lookup f = some v ∧ RV K φ H d v := by
  obtain ⟨h1, h2⟩ := h
  induction fs generalizing xs with
  | nil => cases e
  | cons p fs ih =>
    obtain ⟨g, x⟩ := p
    cases xs with
    | nil => cases h1
    | cons q xs =>
      obtain ⟨g', y⟩ := q
      simp only [List.map_cons, List.cons.injEq] at h1 h2
      obtain ⟨rfl, h1⟩ := h1
      cases h2 with
      | cons r rs =>
        simp only [List.lookup] at e ⊢
        split at e
        · cases e
          exact ⟨y, rfl, r⟩
        · exact ih e h1 rs
theorem RFs.no {fs : List (Str × D)} {xs : List (Str × V)} (h : RFs K φ H fs xs) {f : Str} (e : fs.lookup f = none) : xs.lookup f = none := by
  obtain ⟨h1, h2⟩ := h
  induction fs generalizing xs with
  | nil =>
    cases xs with
    | nil => rfl
    | cons q xs => cases h1
  | cons p fs ih =>
    obtain ⟨g, x⟩ := p
    cases xs with
    | nil => cases h1
    | cons q xs =>
      obtain ⟨g', y⟩ := q
      simp only [List.map_cons, List.cons.injEq] at h1 h2
      obtain ⟨rfl, h1⟩ := h1
      cases h2 with
      | cons r rs =>
        simp only [List.lookup] at e ⊢
        split at e
        · cases e
        · exact ih e h1 rs
theorem RFs.len {fs : List (Str × D)} {xs : List (Str × V)} (h : RFs K φ H fs xs) : fs.length = xs.length := by
  have := congrArg List.length h.1
  simpa using this.symm
theorem RFs.put {f : Str} {d : D} {v : V} (rv : RV K φ H d v) : ∀ {fs : List (Str × D)} {xs : List (Str × V)}, RFs K φ H fs xs → RFs K φ H (putD f d fs) (putF f v xs)
  | [], [], _ => ⟨rfl, .cons rv .nil⟩
  | [], _ :: _, h => by cases h.1
  | _ :: _, [], h => by cases h.1
  | (g, x) :: fs, (g', y) :: xs, ⟨h1, h2⟩ => by
    simp only [List.map_cons, List.cons.injEq] at h1 h2
    obtain ⟨rfl, h1⟩ := h1
    cases h2 with
    | cons r rs =>
      simp only [putD, putF]
      by_cases z : g' = f
      · simp only [z, if_true]
        exact ⟨by simp [h1], .cons rv rs⟩
      · simp only [z, if_false]
        obtain ⟨i1, i2⟩ := RFs.put rv (fs := fs) (xs := xs) ⟨h1, rs⟩
        exact ⟨by simp [i1], .cons r i2⟩
end
end
end Mx
set_option Elab.async false
set_option linter.all false
set_option maxRecDepth 100000
set_option maxHeartbeats 6500000
set_option exponentiation.threshold 5000
/-! the operations, over the layer's rules -/
namespace Mx
open L2 PySem PySem.Spec PyProof.Rows
section
variable {K : PySem.W.Frag} {ca : Nat → Addr} {φ φ' : List Addr} {H H' : Hp} {S S' : Sto} {ρ : Rho} {σ : L2.St}
theorem lim_line : LIM ≤ sizeLine := by rw [sizeLine_eq]; unfold LIM; decide
theorem lim_lt {n : Nat} (h : n < LIM) : n < sizeLine := Nat.lt_of_lt_of_le h lim_line
theorem lim_le {n : Nat} (h : n ≤ LIM) : n ≤ sizeLine := Nat.le_trans h lim_line
mutual
theorem RV.dp (f : Nat → Option PyData) (hf : ∀ i a x, φ[i]? = some a → f i = some x → Dp K H (.ref a) x) : ∀ {d : D} {v : V} {x : PyData}, RV K φ H d v → pdW f d = some x → Dp K H v x
  | _, _, _, .non, e => by cases e; exact .non
  | _, _, _, .bl b, e => by cases e; exact .bl b
  | _, _, _, .int i, e => by cases e; exact .int i
  | _, _, _, .str x, e => by cases e; exact .str x
  | _, _, _, .tup s r, e => by
    simp only [pdW, Option.map_eq_some_iff] at e
    obtain ⟨xs, e1, rfl⟩ := e
    exact .tup s (RVs.dp f hf r e1)
  | _, _, _, .ref h, e => hf _ _ _ h e
theorem RVs.dp (f : Nat → Option PyData) (hf : ∀ i a x, φ[i]? = some a → f i = some x → Dp K H (.ref a) x) : ∀ {ds : List D} {vs : List V} {xs : List PyData}, RVs K φ H ds vs → pdWs f ds = some xs → DpAll K H vs xs
  | _, _, _, .nil, e => by cases e; exact .nil
  | _, _, _, .cons r t, e => by
    simp only [pdWs] at e
    split at e
    · rename_i x xs e1 e2
      cases e
      exact .cons (RV.dp f hf r e1) (RVs.dp f hf t e2)
    · cases e
end
theorem RS.dp (h : RS K ca φ H S) : ∀ (n : Nat) {d : D} {v : V} {x : PyData}, RV K φ H d v → pdN n S d = some x → Dp K H v x
  | 0, _, _, _, r, e => r.dp _ (fun _ _ _ _ z => by cases z) e
  | n + 1, _, _, _, r, e => r.dp _ (fun i a x ha z => by
      split at z
      · rename_i l q
        obtain ⟨xs, h1, h2⟩ := h.lst q ha
        simp only [Option.map_eq_some_iff] at z
        obtain ⟨ys, e1, rfl⟩ := z
        refine .lst h1 ?_
        have go : ∀ {l : List D} {xs : List V} {ys : List PyData}, RVs K φ H l xs → mapO (pdN n S) l = some ys → DpAll K H xs ys := by
          intro l
          induction l with
          | nil => intro xs ys r e; cases r; cases e; exact .nil
          | cons d ds ih =>
            intro xs ys r e
            cases r with
            | cons r1 r2 =>
              simp only [mapO] at e
              split at e
              · rename_i y ys' e1 e2
                cases e
                exact .cons (RS.dp h n r1 e1) (ih r2 e2)
              · cases e
        exact go h2 e1
      · cases z) e
/-- what comes of it: as was asked -/
def Go (K : PySem.W.Frag) (ca : Nat → Addr) (E : XK) (φ : List Addr) (H : Hp) (r : Rs D) (Q : VK) : Prop := match r with
  | .ok d S' => ∀ φ' H' v, Le φ H φ' H' → RS K ca φ' H' S' → RV K φ' H' d v → Q v H'
  | .er x S' => ∀ φ' H' c dd, Le φ H φ' H' → RS K ca φ' H' S' → RX K ca φ' H' x c dd → E c dd H'
theorem Go.mono {E : XK} {r : Rs D} {Q : VK} (h : Go K ca E φ H r Q) (e : Le φ H φ' H') : Go K ca E φ' H' r Q := by
  cases r with
  | ok d S' => exact fun φ2 H2 v le => h φ2 H2 v (e.trans le)
  | er x S' => exact fun φ2 H2 c dd le => h φ2 H2 c dd (e.trans le)
variable {X : Cx} {E : XK}
/-- a rule of two values, from the machine's step -/
def rM2 (K : PySem.W.Frag) (ca : Nat → Addr) (E : XK) (f : D → D → Sto → Option (D × Sto)) : R2 := fun x y H Q => ∃ φ S d1 d2 d S', RS K ca φ H S ∧ RV K φ H d1 x ∧ RV K φ H d2 y ∧ f d1 d2 S = some (d, S') ∧ Go K ca E φ H (.ok d S') Q
theorem wid_log {n : Nat} (h : n < WID) : n.log2 < 9000 := by
  have h' : n < 2 ^ 4000 := h
  have := PySem.Flt.log2_lt_of (by decide : 0 < 4000) h'
  omega
theorem wid_mul {i j : Int} (h1 : i.natAbs < WID) (h2 : j.natAbs < WID) : CMulW i j := wide_mul (a := 4000) (b := 4000) h1 h2 (by decide) (by decide) (by decide)
theorem op_fdivX : OpR X (binaryOp .FloorDiv) (rI (fun _ j => j ≠ 0 ∧ j.natAbs < WID) fun i j => .int (i.fdiv j)) := opI fun _ _ _ _ _ _ _ hc q =>
  floordiv_int hc.1 q (.inl (PyProof.noPylong_of_log2 (wid_log hc.2)))
def opOf : B2 → Operator
  | .add => .Add | .sub => .Sub | .mul => .Mult | .fdiv => .FloorDiv | .mod => .Mod | .pow => .Pow | .shl => .LShift | .shr => .RShift
theorem op2_ok (hK : X.K = K) (o : B2) : OpR X (binaryOp (opOf o)) (rM2 K ca E (op2 o)) := by
  subst hK
  intro pins s σ H; intro x y v u Q I rx ry h
  obtain ⟨φ, S, d1, d2, d, S', rs, r1, r2, e, go⟩ := h
  have nums : ∀ {z : Int}, .int z = d → S = S' → Q (.int z) H := fun {z} a b => by subst a b; exact go φ H _ (Le.refl _ _) rs (.int z)
  unfold op2 at e
  split at e
  · -- int + int
    cases r1; cases r2; cases e
    exact op_add pins s σ H _ _ v u Q I rx ry ⟨_, _, rfl, rfl, nums rfl rfl⟩
  · -- tuple + tuple
    rename_i l1 l2
    split at e
    · rename_i hz
      cases e
      cases r1 with
      | @tup a xs _ s1 t1 =>
        cases r2 with
        | @tup b ys _ s2 t2 =>
          refine op_catA pins s σ H _ _ v u Q I rx ry ⟨a, b, xs, ys, rfl, rfl, s1, s2, by rw [← t1.length, ← t2.length]; exact lim_le hz, fun ex => ?_, fun _ ey => ?_, fun _ _ p np => ?_⟩
          · subst ex
            have e1 : l1 = [] := by cases t1; rfl
            subst e1
            exact go φ H _ (Le.refl _ _) rs (.tup s2 t2)
          · subst ey
            have e2 : l2 = [] := by cases t2; rfl
            subst e2
            rw [List.append_nil] at go
            exact go φ H _ (Le.refl _ _) rs (.tup s1 t1)
          · have le : Le φ H φ (upd H p (.tup (xs ++ ys))) := Le.new np
            exact go φ _ _ le (rs.new np) (.tup (.of upd_same) ((t1.append t2).mono le))
    · cases e
  · -- list + list
    rename_i i j
    split at e
    · rename_i l1 l2 h1 h2
      split at e
      · rename_i hz
        cases e
        cases r1 with
        | ref ha =>
          cases r2 with
          | ref hb =>
            obtain ⟨xs, x1, y1⟩ := rs.mut h1 ha
            obtain ⟨ys, x2, y2⟩ := rs.mut h2 hb
            refine op_cat pins s σ H _ _ v u Q I rx ry ⟨_, _, xs, ys, rfl, rfl, x1, x2, by rw [← y1.length, ← y2.length]; exact lim_le hz, fun p np => ?_⟩
            refine go (φ ++ [p]) _ _ (Le.add np) (rs.addL np (y1.append y2)) (.ref ?_)
            rw [← rs.len]
            simp
      · cases e
    · cases e
  · -- int - int
    cases r1; cases r2; cases e
    exact op_sub pins s σ H _ _ v u Q I rx ry ⟨_, _, rfl, rfl, nums rfl rfl⟩
  · -- int * int
    split at e
    · rename_i hz
      cases r1; cases r2; cases e
      exact op_mulW pins s σ H _ _ v u Q I rx ry ⟨_, _, rfl, rfl, wid_mul hz.1 hz.2, nums rfl rfl⟩
    · cases e
  · -- list * int
    split at e
    · rename_i l h1
      split at e
      · rename_i hz
        cases e
        cases r2
        cases r1 with
        | ref ha =>
          obtain ⟨xs, x1, y1⟩ := rs.mut h1 ha
          have hn : LIM < 2 ^ 63 := by unfold LIM; decide
          refine op_rep pins s σ H _ _ v u Q I rx ry ⟨_, _, xs, rfl, rfl, x1, by omega, by omega, by rw [← y1.length]; exact lim_le hz.1, fun p np => ?_⟩
          refine go (φ ++ [p]) _ _ (Le.add np) (rs.addL np (y1.rep _)) (.ref ?_)
          rw [← rs.len]
          simp
      · cases e
    · cases e
  · -- int // int
    split at e
    · rename_i hz
      cases r1; cases r2; cases e
      exact op_fdivX pins s σ H _ _ v u Q I rx ry ⟨_, _, rfl, rfl, hz, nums rfl rfl⟩
    · cases e
  · split at e
    · rename_i hz
      cases r1; cases r2; cases e
      exact op_modN pins s σ H _ _ v u Q I rx ry ⟨_, _, rfl, rfl, hz, nums rfl rfl⟩
    · cases e
  · split at e
    · rename_i hz
      cases r1; cases r2; cases e
      exact op_pow pins s σ H _ _ v u Q I rx ry ⟨_, _, rfl, rfl, hz, nums rfl rfl⟩
    · cases e
  · split at e
    · rename_i hz
      cases r1; cases r2; cases e
      exact op_shr pins s σ H _ _ v u Q I rx ry ⟨_, _, rfl, rfl, hz.1, nums rfl rfl⟩
    · cases e
  · split at e
    · rename_i hz
      cases r1; cases r2; cases e
      exact op_shl pins s σ H _ _ v u Q I rx ry ⟨_, _, rfl, rfl, hz, nums rfl rfl⟩
    · cases e
  · cases e
end
end Mx
set_option Elab.async false
set_option linter.all false
set_option maxRecDepth 100000
set_option maxHeartbeats 6500000
set_option exponentiation.threshold 5000
/-! comparisons, built-ins, methods, items, slices -/
namespace Mx
open L2 PySem PySem.Spec PyProof.Rows
section
variable {K : PySem.W.Frag} {ca : Nat → Addr} {φ φ' : List Addr} {H H' : Hp} {S S' : Sto} {ρ : Rho} {σ : L2.St} {X : Cx} {E : XK}
theorem eqD_some {a b : D} {c : Bool} (h : eqD S a b = some c) : ∃ x y, pdN 3 S a = some x ∧ pdN 3 S b = some y ∧ SeqAt.shaped x = true ∧ SeqAt.shaped y = true ∧ c = PyData.eqv x y := by
  unfold eqD at h
  split at h
  · rename_i x y h1 h2
    split at h
    · rename_i hs
      rw [Bool.and_eq_true] at hs
      cases h
      exact ⟨x, y, h1, h2, hs.1, hs.2, rfl⟩
    · cases h
  · cases h
theorem RS.seq (h : RS K ca φ H S) {d : D} {v : V} {l : List D} (r : RV K φ H d v) (e : seqOf S d = some l) : ∃ a xs, v = .ref a ∧ (SqL K H a xs ∨ SqT K H a xs) ∧ RVs K φ H l xs := by
  unfold seqOf at e
  split at e
  · cases e
    cases r with
    | tup s t => exact ⟨_, _, rfl, .inr s, t⟩
  · cases r with
    | ref ha =>
      obtain ⟨xs, h1, h2⟩ := h.lst e ha
      exact ⟨_, xs, rfl, .inl h1, h2⟩
  · cases e
theorem RS.tru (h : RS K ca φ H S) {d : D} {v : V} {b : Bool} (r : RV K φ H d v) (e : tru S d = some b) : TruV K v H b := by
  cases r with
  | non => cases e; rfl
  | bl c => cases e; rfl
  | int i => cases e; rfl
  | str x =>
    simp only [Mx.tru] at e
    split at e
    · rename_i hz
      cases e
      exact ⟨lim_le hz, rfl⟩
    · cases e
  | tup s t => cases e; exact .inr (.inl ⟨_, s, by rw [t.isEmpty]⟩)
  | ref ha =>
    simp only [Mx.tru, Option.map_eq_some_iff] at e
    obtain ⟨l, e1, rfl⟩ := e
    obtain ⟨xs, h1, h2⟩ := h.lst e1 ha
    exact .inl ⟨xs, h1, by rw [h2.isEmpty]⟩
/-! ### in -/
open Classical in
theorem isin_any (h : RS K ca φ H S) {pins : List (Addr × Obj)} {s : Shared} (hK : X.K = K) (hu : X.A.units + 100 < cLine) (I : Inv X pins σ H s) {a : D} {x : V} {u : Value} (ra : RV K φ H a x) (ru : L2.RelV x u) :
    ∀ {l : List D} {xs : List V} {us : List Value} {c : Bool}, isin S a l = some c → RVs K φ H l xs → Vals xs us → ∃ e : Value → Bool, (∀ y ∈ us, SeqAt.EqAt X.A.in1 s y u (e y)) ∧ us.any e = c := by
  subst hK
  intro l xs us c hc rl rv
  by_cases hl : l = []
  · subst hl
    cases rl
    cases rv
    cases hc
    exact ⟨fun _ => false, (fun y hy => by cases hy), rfl⟩
  · obtain ⟨dx, hdx, sdx⟩ : ∃ dx, pdN 3 S a = some dx ∧ SeqAt.shaped dx = true := by
      cases l with
      | nil => exact absurd rfl hl
      | cons d ds =>
        simp only [isin] at hc
        split at hc
        · rename_i b c' h1 h2
          obtain ⟨p, q, _, h4, _, h6, _⟩ := eqD_some h1
          exact ⟨q, h4, h6⟩
        · cases hc
    obtain ⟨ax, rx⟩ := Dp.reads I dx x u (h.dp 3 ra hdx) ru
    refine ⟨fun y => decide (∃ d as, Reads s.heap y d as ∧ PyData.eqv d dx = true), ?_⟩
    clear hl
    induction l generalizing xs us c with
    | nil =>
      cases rl
      cases rv
      cases hc
      exact ⟨(fun y hy => by cases hy), rfl⟩
    | cons d ds ih =>
      cases rl with
      | cons r1 r2 =>
        cases rv with
        | @cons _ u1 _ _ v1 v2 =>
          simp only [isin] at hc
          split at hc
          · rename_i b c' h1 h2
            cases hc
            obtain ⟨p, q, h3, h4, h5, h6, rfl⟩ := eqD_some h1
            rw [hdx] at h4
            cases h4
            obtain ⟨i1, i2⟩ := ih h2 r2 v2
            obtain ⟨ap, rp⟩ := Dp.reads I p _ _ (h.dp 3 r1 h3) v1
            have key : decide (∃ d as, Reads s.heap u1 d as ∧ PyData.eqv d dx = true) = PyData.eqv p dx := by
              cases q : PyData.eqv p dx with
              | true => exact decide_eq_true ⟨p, ap, rp, q⟩
              | false =>
                refine decide_eq_false fun ⟨d', as', r', z⟩ => ?_
                obtain ⟨e, _⟩ := PyProof.Rows.reads_det (fun _ _ e _ => e) rp r'
                rw [e, q] at z
                cases z
            refine ⟨fun y hy => ?_, ?_⟩
            · (rcases List.mem_cons.mp hy with rfl | hy)
              · have w := SeqAt.eqAt_reads p dx X.A.in1 s _ u ap ax rp rx (SeqAt.canLay_of_shaped h5) (SeqAt.canLay_of_shaped sdx) (by
                  have := SeqAt.depth_of_shaped h5
                  have h7 : min p.depth dx.depth ≤ p.depth := Nat.min_le_left _ _
                  show X.A.units + 1 + _ < cLine
                  omega)
                rw [← key] at w
                exact w
              · exact i1 y hy
            · rw [List.any_cons, i2, key]
          · cases hc
theorem in_ok (hK : X.K = K) (hu : X.A.units + 100 < cLine) (neg : Bool) : OpR X (compareOp (if neg then .NotIn else .In)) (fun x y H Q => ∃ φ S a d l c, RS K ca φ H S ∧ RV K φ H a x ∧ RV K φ H d y ∧ seqOf S d = some l ∧ isin S a l = some c ∧ Q (.bl (if neg then !c else c)) H) := by
  intro pins s σ H; intro x y v u Q I rx ry h
  obtain ⟨φ, S, a, d, l, c, rs, ra, rd, e1, e2, q⟩ := h
  obtain ⟨p, xs, rfl, hp, rl⟩ := rs.seq rd e1
  cases ry
  subst hK
  rcases hp with hp | hp
  · obtain ⟨its, rv, pl, hz⟩ := I.list hp
    obtain ⟨e, h1, h2⟩ := isin_any rs rfl hu I ra rx e2 rl rv
    cases neg with
    | false => exact SeqAt.in_listAt e pl.isList (fun y hy => h1 y (by simpa using hy)) ⟨.bl _, H, I, by simp [h2, L2.RelV], q⟩
    | true => exact SeqAt.notIn_listAt e pl.isList (fun y hy => h1 y (by simpa using hy)) ⟨.bl _, H, I, by simp [h2, L2.RelV], q⟩
  · obtain ⟨its, rv, pl, hz⟩ := I.tuple hp
    obtain ⟨e, h1, h2⟩ := isin_any rs rfl hu I ra rx e2 rl rv
    cases neg with
    | false => exact SeqAt.in_tupleAt e pl (fun y hy => h1 y (by simpa using hy)) ⟨.bl _, H, I, by simp [h2, L2.RelV], q⟩
    | true => exact SeqAt.notIn_tupleAt e pl (fun y hy => h1 y (by simpa using hy)) ⟨.bl _, H, I, by simp [h2, L2.RelV], q⟩
def cmOp : Cm → CmpOp
  | .eq => .Eq | .ne => .NotEq | .lt => .Lt | .le => .LtE | .gt => .Gt | .ge => .GtE | .is => .Is | .isnot => .IsNot | .isin => .In | .notin => .NotIn
def rC (K : PySem.W.Frag) (ca : Nat → Addr) (o : Cm) : R2 := fun x y H Q => ∃ φ S a b c, RS K ca φ H S ∧ RV K φ H a x ∧ RV K φ H b y ∧ cm2 o a b S = some c ∧ Q (.bl c) H
theorem strD_some {a b : D} {c : Bool} (h : strD a b = some c) : ∃ x y : Str, a = .str x ∧ b = .str y ∧ c = (x == y) := by
  unfold strD at h
  split at h
  · cases h; exact ⟨_, _, rfl, rfl, rfl⟩
  · cases h
theorem eqC_some {a b : D} {c : Bool} (h : eqC S a b = some c) : (∃ x y : Str, a = .str x ∧ b = .str y ∧ c = (x == y)) ∨ eqD S a b = some c := by
  unfold eqC at h
  split at h
  · rename_i e
    cases h
    exact .inl (strD_some e)
  · exact .inr h
theorem str_dec (x y : Str) : decide (V.str x = V.str y) = (x == y) := by
  by_cases h : x = y
  · subst h; simp
  · rw [show (x == y) = false from beq_false_of_ne h]
    exact decide_eq_false fun e => h (V.str.inj e)
/-! ### lists of ints by their order -/
theorem first_lex (e r : Nat → Bool) : ∀ (ns ms : List Int) (i : Nat), (∀ j (h1 : j < ns.length) (h2 : j < ms.length), e (i + j) = decide (ns[j] = ms[j]) ∧ r (i + j) = decide (ns[j] < ms[j])) →
    SeqAt.firstLt e r (decide (ns.length < ms.length)) (List.range' i (min ns.length ms.length)) = HT.lexLt ns ms
  | [], [], i, _ => rfl
  | [], m :: ms, i, _ => by simp [SeqAt.firstLt, HT.lexLt]
  | n :: ns, [], i, _ => by simp [SeqAt.firstLt, HT.lexLt]
  | n :: ns, m :: ms, i, h => by
    have h0 := h 0 (by simp) (by simp)
    simp only [Nat.add_zero, List.getElem_cons_zero] at h0
    have ih := first_lex e r ns ms (i + 1) fun j h1 h2 => by
      have := h (j + 1) (by simpa using h1) (by simpa using h2)
      simp only [List.getElem_cons_succ] at this
      rw [show i + 1 + j = i + (j + 1) by omega]
      exact this
    have e1 : min (n :: ns).length (m :: ms).length = min ns.length ms.length + 1 := by simp only [List.length_cons]; omega
    have e2 : decide ((n :: ns).length < (m :: ms).length) = decide (ns.length < ms.length) := by simp
    rw [e1, List.range'_succ, e2]
    by_cases q : n = m
    · rw [SeqAt.firstLt_yes (by rw [h0.1]; exact decide_eq_true q), ih, HT.lexLt_cons, if_pos q]
    · rw [SeqAt.firstLt_no (by rw [h0.1]; exact decide_eq_false q), HT.lexLt_cons, if_neg q, h0.2]
theorem op_ltL {pins : List (Addr × Obj)} {s : Shared} {a b : Addr} {ns ms : List Int} {Q : VK} (hu : X.A.units + 64 < cLine) (I : Inv X pins σ H s) (ha : SqL X.K H a (ns.map V.int)) (hb : SqL X.K H b (ms.map V.int)) (q : Q (.bl (HT.lexLt ns ms)) H) :
    wpAny (model X.prog X.w) X.A (compareOp .Lt (.ref a) (.ref b)) (EP X pins σ Q) X.xe s := by
  obtain ⟨its, r1, p1, _⟩ := I.list ha
  obtain ⟨its2, r2, p2, _⟩ := I.list hb
  have i1 : IntsAre its.toArray.toList ns := intsAre_of r1
  have i2 : IntsAre its2.toArray.toList ms := intsAre_of r2
  simp only at i1 i2
  have l1 := i1.length
  have l2 := i2.length
  have at_ : ∀ {vs : List Value} {ks : List Int} (h : IntsAre vs ks) (j : Nat) (h1 : j < vs.length) (h2 : j < ks.length), ∃ t, vs[j] = .int ks[j] t := fun {vs ks} h j h1 h2 => by
    obtain ⟨t, e⟩ := h.get j ks[j] (List.getElem?_eq_getElem h2)
    rw [List.getElem?_eq_getElem h1] at e
    exact ⟨t, Option.some.inj e⟩
  have main : SeqAt.RcLt X.A s (.ref a) (.ref b) (HT.lexLt ns ms) := by
    have k := SeqAt.RcLt.lists (A := X.A) (s := s) (e := fun j => decide (ns.getD j 0 = ms.getD j 0)) (r := fun j => decide (ns.getD j 0 < ms.getD j 0)) p1.isList p2.isList (by omega) (fun j h1 h2 => ?_) (fun j h1 h2 _ => ?_)
    · rw [List.range_eq_range', show its.toArray.size = ns.length by simpa using l1, show its2.toArray.size = ms.length by simpa using l2, first_lex _ _ ns ms 0 fun j h1 h2 => by simp [h1, h2]] at k
      exact k
    · have h1' : j < its.length := by simpa using h1
      have h2' : j < its2.length := by simpa using h2
      obtain ⟨t, e1⟩ := at_ i1 j h1' (by omega)
      obtain ⟨u, e2⟩ := at_ i2 j h2' (by omega)
      have d1 : ns.getD j 0 = ns[j]'(by omega) := by simp [show j < ns.length by omega]
      have d2 : ms.getD j 0 = ms[j]'(by omega) := by simp [show j < ms.length by omega]
      show SeqAt.EqAt _ _ its[j] its2[j] _
      rw [e1, e2, d1, d2]
      exact SeqAt.EqAt.int_int _ _ _ _
    · have h1' : j < its.length := by simpa using h1
      have h2' : j < its2.length := by simpa using h2
      obtain ⟨t, e1⟩ := at_ i1 j h1' (by omega)
      obtain ⟨u, e2⟩ := at_ i2 j h2' (by omega)
      have d1 : ns.getD j 0 = ns[j]'(by omega) := by simp [show j < ns.length by omega]
      have d2 : ms.getD j 0 = ms[j]'(by omega) := by simp [show j < ms.length by omega]
      show SeqAt.RcLt _ _ its[j] its2[j] _
      rw [e1, e2, d1, d2]
      exact fun _ _ _ _ h => lt_int h
  exact main _ _ _ _ ⟨.bl (HT.lexLt ns ms), H, I, rfl, q⟩
theorem cm2_ok (hK : X.K = K) (hu : X.A.units + 100 < cLine) (o : Cm) : OpR X (compareOp (cmOp o)) (rC K ca o) := by
  intro pins s σ H; intro x y v u Q I rx ry h
  obtain ⟨φ, S, a, b, c, rs, r1, r2, e, q⟩ := h
  have hu64 : X.A.units + 64 < cLine := by omega
  unfold cm2 at e
  split at e
  · rcases eqC_some e with ⟨x', y', rfl, rfl, rfl⟩ | e
    · cases r1; cases r2
      refine op_eq pins s σ H _ _ v u Q I rx ry ⟨rfl, ?_⟩
      rw [str_dec]
      exact q
    obtain ⟨p, p', h1, h2, h3, h4, rfl⟩ := eqD_some e
    subst hK
    exact op_eqD hu64 pins s σ H x y v u Q I rx ry ⟨p, p', rs.dp 3 r1 h1, rs.dp 3 r2 h2, h3, h4, q⟩
  · simp only [Option.map_eq_some_iff] at e
    obtain ⟨c', e, rfl⟩ := e
    rcases eqC_some e with ⟨x', y', rfl, rfl, rfl⟩ | e
    · cases r1; cases r2
      refine op_ne pins s σ H _ _ v u Q I rx ry ⟨rfl, ?_⟩
      rw [str_dec]
      exact q
    obtain ⟨p, p', h1, h2, h3, h4, rfl⟩ := eqD_some e
    subst hK
    exact op_neD hu64 pins s σ H x y v u Q I rx ry ⟨p, p', rs.dp 3 r1 h1, rs.dp 3 r2 h2, h3, h4, q⟩
  · cases r1; cases r2; cases e; exact op_lt pins s σ H _ _ v u Q I rx ry ⟨_, _, rfl, rfl, q⟩
  · split at e
    · rename_i n1 n2 q1 q2
      cases e
      cases r1 with
      | tup s1 t1 =>
        cases r2 with
        | tup s2 t2 =>
          have z1 := t1.ints q1
          have z2 := t2.ints q2
          subst z1 z2 hK
          exact op_ltT (by omega) pins s σ H _ _ v u Q I rx ry ⟨_, _, n1, n2, rfl, rfl, s1, s2, q⟩
    · cases e
  · split at e
    · rename_i n1 n2 q1 q2
      cases e
      simp only [Option.bind_eq_some_iff] at q1 q2
      obtain ⟨l1, a1, b1⟩ := q1
      obtain ⟨l2, a2, b2⟩ := q2
      cases r1 with
      | ref ha =>
        cases r2 with
        | ref hb =>
          obtain ⟨xs, x1, y1⟩ := rs.lst a1 ha
          obtain ⟨ys, x2, y2⟩ := rs.lst a2 hb
          have z1 := y1.ints b1
          have z2 := y2.ints b2
          subst z1 z2 hK
          cases rx
          cases ry
          exact op_ltL hu64 I x1 x2 q
    · cases e
  · cases r1; cases r2; cases e; exact op_le pins s σ H _ _ v u Q I rx ry ⟨_, _, rfl, rfl, q⟩
  · cases r1; cases r2; cases e; exact op_le_str pins s σ H _ _ v u Q I rx ry ⟨_, _, rfl, rfl, q⟩
  · cases r1; cases r2; cases e; exact op_gt pins s σ H _ _ v u Q I rx ry ⟨_, _, rfl, rfl, q⟩
  · cases r1; cases r2; cases e; exact op_ge pins s σ H _ _ v u Q I rx ry ⟨_, _, rfl, rfl, q⟩
  · cases r1; cases r2; cases e; exact op_isBl pins s σ H _ _ v u Q I rx ry ⟨_, _, rfl, rfl, q⟩
  · cases r1; cases r2; cases e; exact op_isN pins s σ H _ _ v u Q I rx ry ⟨rfl, q⟩
  all_goals first
    | (cases r1; cases r2; cases e; exact op_isN pins s σ H _ _ v u Q I rx ry ⟨rfl, q⟩)
    | (cases r1; cases r2; cases e; exact op_notBl pins s σ H _ _ v u Q I rx ry ⟨_, _, rfl, rfl, q⟩)
    | (cases r1; cases r2; cases e; exact op_notN pins s σ H _ _ v u Q I rx ry ⟨rfl, q⟩)
    | skip
  · simp only [Option.bind_eq_some_iff] at e
    obtain ⟨l, e1, e2⟩ := e
    exact in_ok hK hu false pins s σ H x y v u Q I rx ry ⟨φ, S, a, b, l, c, rs, r1, r2, e1, e2, q⟩
  · simp only [Option.map_eq_some_iff, Option.bind_eq_some_iff] at e
    obtain ⟨c', ⟨l, e1, e2⟩, rfl⟩ := e
    exact in_ok hK hu true pins s σ H x y v u Q I rx ry ⟨φ, S, a, b, l, c', rs, r1, r2, e1, e2, q⟩
  · cases e
end
end Mx
set_option Elab.async false
set_option linter.all false
set_option maxRecDepth 100000
set_option maxHeartbeats 6500000
set_option exponentiation.threshold 5000
namespace Mx
open L2 PySem PySem.Spec PyProof.Rows
section
variable {K : PySem.W.Frag} {ca : Nat → Addr} {φ φ' : List Addr} {H H' : Hp} {S S' : Sto} {ρ : Rho} {σ : L2.St} {X : Cx} {E : XK}
/-! ### isinstance -/
def tyS : D → String
  | .non => "NoneType" | .bl _ => "bool" | .int _ => "int" | .str _ => "str" | .tup _ => "tuple" | .ref _ => "list"
def tyN : Ty → String
  | .int => "int" | .bool => "bool" | .str => "str" | .list => "list" | .tuple => "tuple"
theorem kits : (∀ t : Ty, kitB "NoneType" (tyN t) = some false) ∧ kitB "bool" "int" = some true ∧ kitB "bool" "bool" = some true ∧ kitB "bool" "str" = some false ∧ kitB "bool" "list" = some false ∧ kitB "bool" "tuple" = some false ∧
    kitB "int" "int" = some true ∧ kitB "int" "bool" = some false ∧ kitB "int" "str" = some false ∧ kitB "int" "list" = some false ∧ kitB "int" "tuple" = some false ∧
    kitB "str" "int" = some false ∧ kitB "str" "bool" = some false ∧ kitB "str" "str" = some true ∧ kitB "str" "list" = some false ∧ kitB "str" "tuple" = some false ∧
    kitB "tuple" "int" = some false ∧ kitB "tuple" "bool" = some false ∧ kitB "tuple" "str" = some false ∧ kitB "tuple" "list" = some false ∧ kitB "tuple" "tuple" = some true ∧
    kitB "list" "int" = some false ∧ kitB "list" "bool" = some false ∧ kitB "list" "str" = some false ∧ kitB "list" "list" = some true ∧ kitB "list" "tuple" = some false := by
  refine ⟨fun t => by cases t <;> decide +kernel, ?_⟩
  decide +kernel
theorem kit_of_isTy {d : D} {t : Ty} {b : Bool} (h : isTy S d t = some b) : kitB (tyS d) (tyN t) = some b := by
  obtain ⟨k0, k1, k2, k3, k4, k5, k6, k7, k8, k9, k10, k11, k12, k13, k14, k15, k16, k17, k18, k19, k20, k21, k22, k23, k24, k25⟩ := kits
  cases d with
  | non => cases h; exact k0 t
  | bl _ => cases t <;> cases h <;> assumption
  | int _ => cases t <;> cases h <;> assumption
  | str _ => cases t <;> cases h <;> assumption
  | tup _ => cases t <;> cases h <;> assumption
  | ref i =>
    simp only [isTy, Option.map_eq_some_iff] at h
    obtain ⟨l, _, rfl⟩ := h
    cases t <;> assumption
theorem RS.tyX (h : RS K ca φ H S) {d : D} {v : V} {t : Ty} {b : Bool} (r : RV K φ H d v) (e : isTy S d t = some b) : TyX K H v (.type (tyS d)) := by
  cases r with
  | non => exact .base .non
  | bl b => exact .base (.bl b)
  | int i => exact .base (.int i)
  | str x => exact .base (.str x)
  | tup s _ =>
    rcases s with (s | ⟨o, s⟩) | ⟨o, its, n, s, c, _⟩
    · exact .base (.tup s)
    · exact .fTuple s
    · exact .kTuple s c
  | ref ha =>
    simp only [isTy, Option.map_eq_some_iff] at e
    obtain ⟨l, e, _⟩ := e
    obtain ⟨xs, s, _⟩ := h.lst e ha
    rcases s with (s | ⟨o, s⟩) | ⟨o, its, n, s, c, _⟩
    · exact .base (.lst s)
    · exact .base (.frz s)
    · exact .kList s c
def rIsiM (K : PySem.W.Frag) (ca : Nat → Addr) : List V → Hp → VK → Prop := fun xs H Q => ∃ φ S d x t b, xs = [x, .ty (tyN t)] ∧ RS K ca φ H S ∧ RV K φ H d x ∧ isTy S d t = some b ∧ Q (.bl b) H
theorem isi_ok (hK : X.K = K) : CallR X (.builtin "isinstance") (rIsiM K ca) := by
  subst hK
  intro pins s σ H; intro xs us Q I r h
  obtain ⟨φ, S, d, x, t, b, rfl, rs, rd, e, q⟩ := h
  exact call_isi pins s σ H _ us Q I r ⟨x, .ty (tyN t), .type (tyS d), .type (tyN t), b, rfl, .ty _, rs.tyX rd e, kit_ty (kit_of_isTy e), q⟩
/-! ### built-in functions -/
theorem call_lcm : CallR X (.builtin "math.lcm") (fun vs H Q => ∃ a b : Int, vs = [.int a, .int b] ∧ a.natAbs < 2 ^ 64 ∧ b.natAbs < 2 ^ 64 ∧ Q (.int ((Nat.lcm a.natAbs b.natAbs : Nat) : Int)) H) := by
  intro pins s σ H; intro vs us Q I r h
  obtain ⟨a, b, rfl, h1, h2, q⟩ := h
  (obtain ⟨t, u, rfl⟩ := Vals.int2 r)
  have e1 : Nat.lcm 1 a.natAbs = a.natAbs := by simp [Nat.lcm]
  have hlt : (Nat.lcm a.natAbs b.natAbs) < 2 ^ 128 := by
    have h3 : Nat.lcm a.natAbs b.natAbs ≤ a.natAbs * b.natAbs := by
      unfold Nat.lcm
      exact Nat.div_le_self _ _
    have h4 : a.natAbs * b.natAbs < 2 ^ 64 * 2 ^ 64 := Nat.mul_lt_mul'' h1 h2
    have h5 : (2 : Nat) ^ 64 * 2 ^ 64 = 2 ^ 128 := by decide
    omega
  refine PySem.W.mg_lcm h1 h2 ?_ ?_
  · rw [e1, Int.natAbs_natCast]
    have h6 := PySem.Flt.log2_lt_of (by decide : 0 < 128) hlt
    have h7 : bitsLine = 134217728 := by decide
    omega
  · rw [e1]
    exact ⟨.int _, H, I.tok _, ⟨_, rfl⟩, q⟩
theorem call_repr (hg : X.A.guards = some []) (hu : X.A.units + 100 < cLine) : CallR X (.builtin "repr") (fun vs H Q => ∃ v d, vs = [v] ∧ Dp X.K H v d ∧ d.showable = true ∧ d.hasDict = false ∧ d.depth ≤ 60 ∧ d.shown.length ≤ LIM ∧ Q (.str d.shown) H) := by
  intro pins s σ H; intro vs us Q I r h
  obtain ⟨v, d, rfl, hd, h1, h2, h3, h4, q⟩ := h
  obtain ⟨u, rfl, ru⟩ := Vals.one r
  obtain ⟨as, rd⟩ := Dp.reads I d v u hd ru
  cases d with
  | none =>
    cases rd
    exact PySem.P.repr_of_none ⟨.str _, H, I.tok _, ⟨_, rfl⟩, q⟩
  | bool b =>
    cases rd
    refine PySem.P.repr_of_bool ⟨.str _, H, I.tok _, ⟨_, rfl⟩, ?_⟩
    simpa only [PyData.shown] using q
  | int i =>
    cases rd
    refine PySem.P.repr_of_int (by simpa [PyData.showable] using h1) ⟨.str _, H, I.tok _, ⟨_, rfl⟩, ?_⟩
    simpa only [PyData.shown] using q
  | str x =>
    cases rd
    refine PySem.P.repr_of_str ⟨.str _, H, I.tok _, ⟨_, rfl⟩, ?_⟩ (by simpa only [PyData.shown] using lim_le h4)
    simpa only [PyData.shown] using q
  | list xs =>
    cases ru' : hd with
    | lst s t =>
      cases ru
      exact repr_of_reads' rd h1 (PyData.noDict_hsm h2) hg (by omega) (fun _ _ e => e) (fun h' t' tk k => ⟨.str _, H, I.kept k, ⟨_, rfl⟩, q⟩) (lim_le h4)
  | tuple xs =>
    cases ru' : hd with
    | tup s t =>
      cases ru
      exact repr_of_reads' rd h1 (PyData.noDict_hsm h2) hg (by omega) (fun _ _ e => e) (fun h' t' tk k => ⟨.str _, H, I.kept k, ⟨_, rfl⟩, q⟩) (lim_le h4)
  | dict kvs => cases hd
def biV : Bi → Value
  | .len => .builtin "len" | .abs => .builtin "abs" | .int => .type "int" | .sum => .builtin "sum" | .min => .builtin "min" | .max => .builtin "max"
  | .list => .type "list" | .tuple => .type "tuple" | .repr => .builtin "repr" | .gcd => .builtin "math.gcd" | .lcm => .builtin "math.lcm" | .bool => .type "bool" | .all => .builtin "all" | .any => .builtin "any"
  | _ => .none
def rBi (K : PySem.W.Frag) (ca : Nat → Addr) (E : XK) (b : Bi) : List V → Hp → VK → Prop := fun xs H Q => ∃ φ S ds d S', RS K ca φ H S ∧ RVs K φ H ds xs ∧ bi1 b ds S = some (d, S') ∧ Go K ca E φ H (.ok d S') Q
theorem min_at {ns : List Int} {m : Int} (h : ns.min? = some m) : m ∈ ns ∧ ∀ y ∈ ns, m ≤ y := by
  obtain ⟨h1, h2⟩ := List.min?_eq_some_iff.mp h
  exact ⟨h1, fun y hy => h2 y hy⟩
theorem max_at {ns : List Int} {m : Int} (h : ns.max? = some m) : m ∈ ns ∧ ∀ y ∈ ns, y ≤ m := by
  obtain ⟨h1, h2⟩ := List.max?_eq_some_iff.mp h
  exact ⟨h1, fun y hy => h2 y hy⟩
theorem bi_ok (hK : X.K = K) (hc : X.calm = true) (hg : X.A.guards = some []) (hu : X.A.units + 100 < cLine) (b : Bi) : CallR X (biV b) (rBi K ca E b) := by
  subst hK
  intro pins s σ H; intro xs us Q I r h
  obtain ⟨φ, S, ds, d, S', rs, rd, e, go⟩ := h
  have same : ∀ {v : V}, S' = S → RV X.K φ H d v → Q v H := fun {v} a b => by subst a; exact go φ H _ (Le.refl _ _) rs b
  unfold bi1 at e
  split at e
  · cases e
    cases rd with
    | cons r1 r2 => cases r2; cases r1 with
      | tup s1 t1 => exact call_len_seq pins s σ H _ us Q I r ⟨_, _, rfl, .inr s1, by rw [← t1.length]; exact same rfl (.int _)⟩
  · simp only [Option.map_eq_some_iff] at e
    obtain ⟨l, e1, e2⟩ := e
    cases e2
    cases rd with
    | cons r1 r2 => cases r2; cases r1 with
      | ref ha =>
        obtain ⟨ys, s1, t1⟩ := rs.lst e1 ha
        exact call_len_seq pins s σ H _ us Q I r ⟨_, _, rfl, .inl s1, by rw [← t1.length]; exact same rfl (.int _)⟩
  · cases e
    cases rd with
    | cons r1 r2 => cases r2; cases r1; exact call_abs pins s σ H _ us Q I r ⟨_, rfl, same rfl (.int _)⟩
  · cases e
    cases rd with
    | cons r1 r2 => cases r2; cases r1; exact call_int1 pins s σ H _ us Q I r (.inl ⟨_, rfl, same rfl (.int _)⟩)
  · cases e
    cases rd with
    | cons r1 r2 => cases r2; cases r1; exact call_int1 pins s σ H _ us Q I r (.inr ⟨_, rfl, same rfl (.int _)⟩)
  · cases e
    cases rd with
    | cons r1 r2 => cases r2; cases r1; exact call_bool1 pins s σ H _ us Q I r (.inl ⟨_, rfl, same rfl (.bl _)⟩)
  · cases e
    cases rd with
    | cons r1 r2 => cases r2; cases r1; exact call_bool1 pins s σ H _ us Q I r (.inr ⟨_, rfl, same rfl (.bl _)⟩)
  · simp only [Option.map_eq_some_iff, Option.bind_eq_some_iff] at e
    obtain ⟨ns, ⟨l, e1, e2⟩, e3⟩ := e
    cases e3
    cases rd with
    | cons r1 r2 => cases r2; cases r1 with
      | ref ha =>
        obtain ⟨ys, s1, t1⟩ := rs.lst e1 ha
        rw [t1.ints e2] at s1
        exact cr_sum hc pins s σ H _ us Q I r ⟨_, ns, rfl, s1, same rfl (.int _)⟩
  · cases e
    cases rd with
    | cons r1 r2 => cases r2 with
      | cons r3 r4 => cases r4; cases r1; cases r3; exact call_min2 hc pins s σ H _ us Q I r ⟨_, _, rfl, same rfl (.int _)⟩
  · simp only [Option.bind_eq_some_iff, Option.map_eq_some_iff] at e
    obtain ⟨ns, ⟨l, e1, e2⟩, m, e3, e4⟩ := e
    cases e4
    cases rd with
    | cons r1 r2 => cases r2; cases r1 with
      | ref ha =>
        obtain ⟨ys, s1, t1⟩ := rs.lst e1 ha
        rw [t1.ints e2] at s1
        obtain ⟨m1, m2⟩ := min_at e3
        refine cr_min hc pins s σ H _ us Q I r ⟨_, ns, rfl, s1, List.length_pos_of_mem m1, fun m' h1 h2 => ?_⟩
        have : m' = m := by
          have z1 := h2 m m1
          have z2 := m2 m' h1
          omega
        rw [this]
        exact same rfl (.int _)
  · simp only [Option.bind_eq_some_iff, Option.map_eq_some_iff] at e
    obtain ⟨ns, ⟨l, e1, e2⟩, m, e3, e4⟩ := e
    cases e4
    cases rd with
    | cons r1 r2 => cases r2; cases r1 with
      | ref ha =>
        obtain ⟨ys, s1, t1⟩ := rs.lst e1 ha
        rw [t1.ints e2] at s1
        obtain ⟨m1, m2⟩ := max_at e3
        refine cr_max hc pins s σ H _ us Q I r ⟨_, ns, rfl, s1, List.length_pos_of_mem m1, fun m' h1 h2 => ?_⟩
        have : m' = m := by
          have z1 := h2 m m1
          have z2 := m2 m' h1
          omega
        rw [this]
        exact same rfl (.int _)
  · cases e
    cases rd with
    | cons r1 r2 => cases r2 with
      | cons r3 r4 => cases r4; cases r1; cases r3; exact call_max2 hc pins s σ H _ us Q I r ⟨_, _, rfl, same rfl (.int _)⟩
  · cases e
    cases rd with
    | cons r1 r2 => cases r2; cases r1 with
      | tup s1 t1 =>
        refine call_list_of pins s σ H _ us Q I r ⟨_, _, rfl, .inr s1, fun p np => ?_⟩
        refine go (φ ++ [p]) _ _ (Le.add np) (rs.addL np t1) (.ref ?_)
        rw [← rs.len]
        simp
  · simp only [Option.map_eq_some_iff] at e
    obtain ⟨l, e1, e2⟩ := e
    cases e2
    cases rd with
    | cons r1 r2 => cases r2; cases r1 with
      | ref ha =>
        obtain ⟨ys, s1, t1⟩ := rs.lst e1 ha
        refine call_list_of pins s σ H _ us Q I r ⟨_, _, rfl, .inl s1, fun p np => ?_⟩
        refine go (φ ++ [p]) _ _ (Le.add np) (rs.addL np t1) (.ref ?_)
        rw [← rs.len]
        simp
  · cases e
    cases rd with
    | cons r1 r2 => cases r2; cases r1 with
      | tup s1 t1 => exact call_tuple_of pins s σ H _ us Q I r ⟨_, _, rfl, .inr ⟨s1, same rfl (.tup s1 t1)⟩⟩
  · simp only [Option.map_eq_some_iff] at e
    obtain ⟨l, e1, e2⟩ := e
    cases e2
    cases rd with
    | cons r1 r2 => cases r2; cases r1 with
      | ref ha =>
        obtain ⟨ys, s1, t1⟩ := rs.lst e1 ha
        refine call_tuple_of pins s σ H _ us Q I r ⟨_, _, rfl, .inl ⟨s1, fun p np => ?_⟩⟩
        have le : Le φ H φ (upd H p (.tup ys)) := Le.new np
        exact go φ _ _ le (rs.new np) (.tup (.of upd_same) (t1.mono le))
  · cases e
    cases rd with
    | cons r1 r2 => cases r2 with
      | cons r3 r4 => cases r4; cases r1; cases r3; exact cr_gcd pins s σ H _ us Q I r ⟨_, _, rfl, same rfl (.int _)⟩
  · split at e
    · rename_i hz
      cases e
      cases rd with
      | cons r1 r2 => cases r2 with
        | cons r3 r4 => cases r4; cases r1; cases r3; exact call_lcm pins s σ H _ us Q I r ⟨_, _, rfl, hz.1, hz.2, same rfl (.int _)⟩
    · cases e
  · split at e
    · rename_i x q
      split at e
      · rename_i hz
        cases e
        cases rd with
        | cons r1 r2 => cases r2; exact call_repr hg hu pins s σ H _ us Q I r ⟨_, _, rfl, rs.dp 3 r1 q, hz.1, hz.2.1, hz.2.2.1, hz.2.2.2, same rfl (.str _)⟩
      · cases e
    · cases e
  · simp only [Option.map_eq_some_iff, Option.bind_eq_some_iff] at e
    obtain ⟨ns, ⟨l, e1, e2⟩, e3⟩ := e
    cases e3
    cases rd with
    | cons r1 r2 => cases r2; cases r1 with
      | ref ha =>
        obtain ⟨ys, s1, t1⟩ := rs.lst e1 ha
        rw [t1.bools e2] at s1
        exact cr_all hc pins s σ H _ us Q I r ⟨_, ns, rfl, s1, same rfl (.bl _)⟩
  · simp only [Option.map_eq_some_iff, Option.bind_eq_some_iff] at e
    obtain ⟨ns, ⟨l, e1, e2⟩, e3⟩ := e
    cases e3
    cases rd with
    | cons r1 r2 => cases r2; cases r1 with
      | ref ha =>
        obtain ⟨ys, s1, t1⟩ := rs.lst e1 ha
        rw [t1.bools e2] at s1
        exact cr_any hc pins s σ H _ us Q I r ⟨_, ns, rfl, s1, same rfl (.bl _)⟩
  · cases e
/-! ### methods of lists -/
def mtN : Mt → String
  | .append => "list.append" | .extend => "list.extend" | .pop => "list.pop"
def rMt (K : PySem.W.Frag) (ca : Nat → Addr) (E : XK) (k : Mt) : V → List V → Hp → VK → Prop := fun x xs H Q => ∃ φ S d0 ds d S', RS K ca φ H S ∧ RV K φ H d0 x ∧ RVs K φ H ds xs ∧ mt1 k d0 ds S = some (d, S') ∧ Go K ca E φ H (.ok d S') Q
/-- a list is extended by any tuple -/
theorem ext_meets {l b : Addr} {xs ys : Array Value} {n m : Nat} {dd : Option Addr} {sl : Array (Option Value)} (h0 : ¬(!xs.isEmpty && Builtin.List.listTooLong (xs.size + ys.size)) = true) (h1 : xs.size ≤ sizeLine) (h2 : xs.size + ys.size ≤ sizeLine + 1) :
    Meets (Builtin.«list.extend» ⟨[.ref l, .ref b], []⟩) (fun _ R s => s.heap.get? l = some { cls := .type "list", data := .seq xs n } ∧
      s.heap.get? b = some { cls := .type "tuple", dict := dd, data := .seq ys m, slots := sl } ∧ R (.ok (.ret Value.none)) { s with heap := s.heap.update l (Obj.mapSeq fun x => x ++ ys), toks := s.toks }) := by
  refine .of_wp fun prog w A R s h => ?_
  obtain ⟨hp, g, d, tk, os⟩ := s
  obtain ⟨hl, hb, h⟩ := h
  have f1 := AutoSeq1.idx_int
  have f2 := AutoSeq1.sub_tuple_tuple
  have f3 := AutoSeq1.sub_list_list
  have f4 := AutoSeq1.sub_tuple_list
  have f5 := AutoSeq1.sub_list_tuple
  have z : (xs ++ ys).size ≤ sizeLine + 1 := by
    rw [Array.size_append]
    exact h2
  wp_walk using (wpAny_updateSeq hl rfl (hz := h1) (_hz' := z)), wpAny_loadPart' hl, wpAny_loadPart' hb
  exact ⟨_, rfl, h⟩
/-- a list is extended by a tuple -/
theorem ext_tup {pins : List (Addr × Obj)} {s : Shared} {σ : L2.St} {H : Hp} {l b : Addr} {xs zs : List V} {v : Value} {us : List Value} {Q : VK} (I : Inv X pins σ H s) (rx : RelV (.ref l) v) (rv : Vals [.ref b] us)
    (hH : H l = some (.lst xs)) (hB : SqT X.K H b zs) (hz : xs.length + zs.length ≤ sizeLine) (q : Q .non (upd H l (.lst (xs ++ zs)))) :
    wpAny (model X.prog X.w) X.A (call (.builtin "list.extend") (v :: us)) (EP X pins σ Q) X.xe s := by
  cases rx
  obtain ⟨u, rfl, ru⟩ := rv.one
  cases ru
  obtain ⟨z, its, n, r, hl, e⟩ := I.lstM hH
  obtain ⟨its2, r2, ht, hz2⟩ := I.tuple hB
  have e3 := ht
  have l1 := r.length
  have l2 := r2.length
  obtain ⟨o, eb, ec, m, ed⟩ := ht
  obtain ⟨oc, od, odt, osl⟩ := o
  dsimp only at ec ed
  subst ec
  subst ed
  have hsz : its.toArray.size + its2.toArray.size ≤ sizeLine := by rw [List.size_toArray, List.size_toArray]; omega
  have hd : ¬ (!its.toArray.isEmpty && Builtin.List.listTooLong (its.toArray.size + its2.toArray.size)) = true := by
    rw [notLongL hsz, Bool.and_false]
    simp
  refine call_meets F.slot_list_extend ⟨_, e, rfl⟩ F.entry_list_extend (F.args_list_extend_2 _ _) (ext_meets (m := m) (dd := od) (sl := osl) hd (by rw [List.size_toArray]; omega) (by omega)) ⟨e, eb, ?_⟩
  refine ⟨.non, _, I.lset (its' := its ++ its2) hH e (by simp) (r.append r2) ?_, rfl, q⟩
  rw [List.length_append]
  omega
theorem mt_ok (hK : X.K = K) (k : Mt) : MtR X (mtN k) (rMt K ca E k) := by
  subst hK
  intro pins s σ H x xs v us Q I rx r h
  obtain ⟨φ, S, d0, ds, d, S', rs, r0, rd, e, go⟩ := h
  unfold mt1 at e
  split at e
  · split at e
    · rename_i l q
      split at e
      · rename_i hz
        cases e
        cases r0 with
        | ref ha =>
          cases rd with
          | cons r1 r2 =>
            cases r2
            obtain ⟨ys, y1, y2⟩ := rs.mut q ha
            refine mt_append pins s σ H _ _ v us Q I rx r ⟨_, ys, _, rfl, rfl, y1, by rw [← y2.length]; exact lim_lt hz, ?_⟩
            exact go φ _ _ (Le.mut y1) (rs.put (mutOf_at q) ha y1 ((y2.append (.cons r1 .nil)).mono (Le.refl _ _))) .non
      · cases e
    · cases e
  · split at e
    · rename_i l m q1 q2
      split at e
      · rename_i hz
        cases e
        cases r0 with
        | ref ha =>
          cases rd with
          | cons r1 r2 =>
            cases r2
            cases r1 with
            | ref hb =>
              obtain ⟨ys, y1, y2⟩ := rs.mut q1 ha
              obtain ⟨zs, z1, z2⟩ := rs.mut q2 hb
              refine mt_extend pins s σ H _ _ v us Q I rx r ⟨_, _, ys, zs, rfl, rfl, y1, z1, by rw [← y2.length, ← z2.length]; exact lim_le hz, ?_⟩
              exact go φ _ _ (Le.mut y1) (rs.put (mutOf_at q1) ha y1 (y2.append z2)) .non
      · cases e
    · cases e
  · split at e
    · rename_i l q
      split at e
      · rename_i hz
        cases e
        cases r0 with
        | ref ha =>
          cases rd with
          | cons r1 r2 =>
            cases r2
            cases r1 with
            | tup st rt =>
              obtain ⟨ys, y1, y2⟩ := rs.mut q ha
              refine ext_tup I rx r y1 st (by rw [← y2.length, ← rt.length]; exact lim_le hz) ?_
              exact go φ _ _ (Le.mut y1) (rs.put (mutOf_at q) ha y1 (y2.append rt)) .non
      · cases e
    · cases e
  · split at e
    · rename_i l q
      split at e
      · rename_i dl ql
        cases e
        cases r0 with
        | ref ha =>
          cases rd
          obtain ⟨ys, y1, y2⟩ := rs.mut q ha
          obtain ⟨y, hy, ry⟩ := y2.get ql
          rw [y2.length] at hy
          refine mt_pop pins s σ H _ _ v us Q I rx r ⟨_, ys, y, rfl, rfl, y1, hy, ?_⟩
          exact go φ _ _ (Le.mut y1) (rs.put (mutOf_at q) ha y1 y2.dropLast) (ry.mono (Le.mut y1))
      · cases e
    · cases e
  · cases e
/-! ### items, slices, a[i] = v -/
def rIxM (K : PySem.W.Frag) (ca : Nat → Addr) : R2 := fun x y H Q => ∃ φ S a b d, RS K ca φ H S ∧ RV K φ H a x ∧ RV K φ H b y ∧ ix1 S a b = some d ∧ ∀ v, RV K φ H d v → Q v H
theorem ix_ok (hK : X.K = K) : IxR X (rIxM K ca) := by
  subst hK
  intro value slice pins s; intro σ H x y v u Q I rx ry h hs
  obtain ⟨φ, S, a, b, d, rs, ra, rb, e, q⟩ := h
  unfold ix1 at e
  split at e
  · simp only [Option.bind_eq_some_iff] at e
    obtain ⟨l, e1, e2⟩ := e
    obtain ⟨p, xs, rfl, hp, rl⟩ := rs.seq ra e1
    obtain ⟨w, hw, rw'⟩ := rl.atI e2
    cases rb
    rcases hp with hp | hp
    · exact ix_list value slice pins s σ H _ _ v u Q I rx ry ⟨p, xs, _, w, rfl, rfl, hp, hw, q w rw'⟩ hs
    · exact ix_tup value slice pins s σ H _ _ v u Q I rx ry ⟨p, xs, _, w, rfl, rfl, hp, hw, q w rw'⟩ hs
  · cases e
def rSlM (K : PySem.W.Frag) (ca : Nat → Addr) (E : XK) : V → Option Int → Option Int → Hp → VK → Prop := fun x lo hi H Q => ∃ φ S a l h d S', RS K ca φ H S ∧ RV K φ H a x ∧ oInt l = some lo ∧ oInt h = some hi ∧ sl1 a l h S = some (d, S') ∧ Go K ca E φ H (.ok d S') Q
theorem sl_ok (hK : X.K = K) : SlR X (rSlM K ca E) := by
  subst hK
  intro pins s σ H; intro x v vl vu lo hi sl Q I rx hs pl pu h
  obtain ⟨φ, S, a, l, h', d, S', rs, ra, e1, e2, e, go⟩ := h
  unfold sl1 at e
  rw [e1, e2] at e
  simp only at e
  split at e
  · cases e
    cases ra with
    | @tup a0 zs l0 s1 t1 =>
      refine sl_tupA pins s σ H _ v vl vu lo hi sl Q I rx hs pl pu ⟨_, _, rfl, s1, fun hw => ?_, fun _ p np => ?_⟩
      · have ec := t1.cut lo hi
        have e3 : cutV zs lo hi = zs := by
          unfold cutV
          rw [hw.1, hw.2]
          simp
        rw [e3] at ec
        exact go φ H _ (Le.refl _ _) rs (.tup s1 ec)
      · exact go φ _ _ (Le.new np) (rs.new np) (.tup (.of upd_same) ((t1.cut lo hi).mono (Le.new np)))
  · simp only [Option.map_eq_some_iff] at e
    obtain ⟨xs, e3, e4⟩ := e
    cases e4
    cases ra with
    | ref ha =>
      obtain ⟨ys, s1, t1⟩ := rs.lst e3 ha
      refine sl_list pins s σ H _ v vl vu lo hi sl Q I rx hs pl pu ⟨_, _, rfl, s1, fun p np => ?_⟩
      refine go (φ ++ [p]) _ _ (Le.add np) (rs.addL np (t1.cut lo hi)) (.ref ?_)
      rw [← rs.len]
      simp
  · cases e
/-- o[i] of a list, by values -/
def rGetM (K : PySem.W.Frag) (ca : Nat → Addr) : V → V → Hp → VK → Prop := fun x y H Q => ∃ φ S a b d, RS K ca φ H S ∧ RV K φ H a x ∧ RV K φ H b y ∧ getL S a b = some d ∧ ∀ v, RV K φ H d v → Q v H
theorem get_ok (hK : X.K = K) : PGet X (rGetM K ca) := by
  subst hK
  intro pins s σ H; intro x y v u Q I rx ry h
  obtain ⟨φ, S, a, b, d, rs, ra, rb, e, q⟩ := h
  unfold getL at e
  split at e
  · rename_i n0 i
    simp only [Option.bind_eq_some_iff] at e
    obtain ⟨l, e1, e2⟩ := e
    cases rb
    cases ra with
    | ref ha =>
      obtain ⟨ys, s1, t1⟩ := rs.lst e1 ha
      obtain ⟨w, hw, rw'⟩ := t1.atI e2
      cases rx
      obtain ⟨t, rfl⟩ := ry
      obtain ⟨its, r, pl, hz⟩ := I.list s1
      obtain ⟨j, h1, h2, h3, h4, h5⟩ := atI_get hw
      obtain ⟨w', ew, rw''⟩ := r.get h2
      have hl := r.length
      have hn := line63
      have fin : EP X pins σ Q w' s := ⟨w, H, I, rw'', q w rw'⟩
      by_cases h0 : 0 ≤ i
      · have hj : i.toNat = j := by
          rw [seqIndex_of h0 h5] at h1
          exact Option.some.inj h1
        exact wpAny_getItem_list pl.isList h0 (by omega) (by rw [hj]; simpa using ew) fin
      · have hj : (i + (its.toArray.size : Int)).toNat = j := by
          rw [seqIndex_neg (by omega) h4] at h1
          rw [List.size_toArray, ← hl]
          exact Option.some.inj h1
        exact wpAny_getItem_list_neg pl.isList (by omega) (by rw [List.size_toArray] <;> omega) (by omega) (by rw [hj]; simpa using ew) fin
  · cases e
def rSetM (K : PySem.W.Frag) (ca : Nat → Addr) : TSet := fun o i v H Q => ∃ φ S d1 d2 d3 S', RS K ca φ H S ∧ RV K φ H d1 o ∧ RV K φ H d2 i ∧ RV K φ H d3 v ∧ seti S d1 d2 d3 = some S' ∧ ∀ H', Le φ H φ H' → RS K ca φ H' S' → Q H'
theorem set_ok : PSet X (rSetM K ca) := by
  intro pins s σ H; intro o i v ov iv u Q I ro ri rv h
  obtain ⟨φ, S, d1, d2, d3, S', rs, r1, r2, r3, e, q⟩ := h
  unfold seti at e
  split at e
  · simp only [Option.bind_eq_some_iff, Option.map_eq_some_iff] at e
    obtain ⟨l, e1, j, e2, rfl⟩ := e
    cases r2
    cases r1 with
    | ref ha =>
      obtain ⟨ys, y1, y2⟩ := rs.mut e1 ha
      refine set_list pins s σ H _ _ v ov iv u Q I ro ri rv ⟨_, ys, _, j, rfl, rfl, y1, by rw [← y2.length]; exact e2, ?_⟩
      exact q _ (Le.mut y1) (rs.put (mutOf_at e1) ha y1 (y2.set r3 j))
  · cases e
end
/-! ### t[::-1] of a tuple -/
theorem rev_pick (xs : Array Value) : ((List.range xs.size).filterMap fun (k : Nat) => xs[(((xs.size : Int) - 1) + (k : Int) * (-1)).toNat]?).toArray = xs.toList.reverse.toArray := by
  rw [← PySem.W.krv_pick]
  unfold slicePick
  rw [PySem.W.krv_bounds]
  show _ = ((sliceRange ((xs.size : Int) - 1) (-1) (-1)).filterMap (xs[·]?)).toArray
  rw [PySem.W.krv_sliceRange, List.filterMap_map]
  congr 2
  funext k
  by_cases lt : k < xs.size
  · have e : (((xs.size : Int) - 1) + (k : Int) * (-1)).toNat = xs.size - 1 - k := by omega
    rw [e]
    rfl
  · have e : (((xs.size : Int) - 1) + (k : Int) * (-1)).toNat = xs.size - 1 - k := by omega
    rw [e]
    rfl
section
variable {prog : Program} {w : World} {A : Around} {E : Value → Shared → Prop} {s : Shared}
theorem applied_rev {sl : Addr} {vs : Value} {n : Nat} {Q : Int × Int × Nat → Shared → Prop} (hs : s.heap.IsSliceOf sl .none .none vs) (ps : IsPart vs (some (-1)))
    (h : Q ((n : Int) - 1, -1, n) s) : wpAny (model prog w) A (Builtin.Slice.sliceApplied (.ref sl) (pure (n : Int))) Q E s := by
  obtain ⟨os, hos, hcs, hds⟩ := id hs
  unfold Builtin.Slice.sliceApplied Builtin.Slice.sliceFields
  refine wpAny_bind (wpAny_bind (wpAny_field hos hds (x := .none) rfl (wpAny_bind (wpAny_field hos hds (x := .none) rfl (wpAny_bind (wpAny_field hos hds (x := vs) rfl (wpAny_pure ?_)))))))
  refine wpAny_bind (HT.slicePart_ ps ?_)
  show wpAny _ _ (if ((-1 : Int) == 0) = true then _ else _) _ _ s
  rw [if_neg (by decide)]
  refine wpAny_bind (HT.slicePart_ .none (wpAny_bind (HT.slicePart_ .none (wpAny_bind (wpAny_pure ?_)))))
  show wpAny _ _ (pure ((n : Int) - 1, (-1 : Int), Builtin.Slice.slicePlaces ((n : Int) - 1) (-1) (-1))) _ _ s
  have e : Builtin.Slice.slicePlaces ((n : Int) - 1) (-1) (-1) = n := by
    unfold Builtin.Slice.slicePlaces
    have h1 : ¬ ((-1 : Int) > 0) := by decide
    have h2 : (-(-1) : Int) = 1 := by decide
    simp only [h1, if_false, h2, Int.ediv_one]
    split <;> omega
  rw [e]
  exact wpAny_pure h
theorem item_tup_rev {t sl : Addr} {xs : Array Value} {vs : Value} {Q : Value → Shared → Prop} (ht : IsTup s.heap t xs) (hs : s.heap.IsSliceOf sl .none .none vs) (ps : IsPart vs (some (-1)))
    (h : Q (.ref s.heap.objs.size) { s with heap := s.heap.push { cls := .type "tuple", data := .seq xs.toList.reverse.toArray } }) (hz : xs.size ≤ sizeLine) :
    wpAny (model prog w) A (getItem (.ref t) (.ref sl)) Q E s := by
  have ok : sizeOk (.seq xs.toList.reverse.toArray) := by
    show xs.toList.reverse.toArray.size ≤ sizeLine
    simpa using hz
  obtain ⟨os, hos, hcs, hds⟩ := id hs
  have isS : s.TypeIs (.ref sl) "slice" := ⟨os, hos, hcs⟩
  unfold getItem
  try with_reducible refine wpAny_holding ?_
  first | refine wpAny_bind (wpAny_pure ?_) | skip
  refine wpAny_bind (wpAny_sequenceKey ht.typeIs (by decide) ?_)
  refine wpAny_bind (wpAny_callSpecial?_slot (name := Str.ofString "__getitem__") ht.typeIs PyProof.Rows.slot_tuple_getitem (wpAny_call_entry PyProof.Rows.slot_tuple_getitem ht.typeIs entry_tuple_getitem ?_ (args_tuple_getitem _ _)))
  show wpAny _ _ (Builtin.Tuple.tupleItemsOf (.ref t) >>= _) _ _ s
  refine wpAny_bind (tupleItemsOf_ ht (wpAny_bind (wpAny_typeOf isS ?_)))
  rw [if_pos (by decide)]
  refine wpAny_bind (applied_rev hs ps ?_)
  have no : ¬ ((((xs.size : Int) - 1) == 0 && (-1 : Int) == 1 && xs.size == xs.size) = true) := by simp
  show wpAny _ _ (if ((((xs.size : Int) - 1) == 0 && (-1 : Int) == 1 && xs.size == xs.size) = true) then _ else _) _ _ s
  rw [if_neg no, rev_pick]
  first
    | exact wpAny_bind (m := Builtin.Tuple.tupleExact _) (wpAny_newObj_type (wpAny_pure ⟨_, rfl, wpAny_pure h⟩) ok)
    | exact wpAny_bind (m := Builtin.Tuple.tupleExact _) (wpAny_newObj_type (wpAny_bind (wpAny_pure (wpAny_pure ⟨_, rfl, wpAny_pure h⟩))) ok)
    | exact wpAny_bind (wpAny_bind (m := Builtin.Tuple.tupleExact _) (wpAny_newObj_type (wpAny_pure (wpAny_pure ⟨_, rfl, wpAny_pure h⟩)) ok))
    | exact wpAny_bind (wpAny_bind (m := Builtin.Tuple.tupleExact _) (wpAny_newObj_type (wpAny_pure ⟨_, rfl, wpAny_pure h⟩) ok))
end
def tRevT (K : PySem.W.Frag) (te : TE) : TE := fun σ H Q => te σ H fun x H1 => ∃ a xs, x = .ref a ∧ SqT K H1 a xs ∧ ∀ p, H1 p = none → Q (.ref p) (upd H1 p (.tup xs.reverse))
theorem pe_revT {X : Cx} {e : Expr} {te : TE} {k : Nat} {p1 p2 p3 pos : Pos} (he : PE X e te) : PE X (.Subscript e (.Slice none none (some (.UnaryOp .USub (.Constant (.int 1) k p1) p2)) p3) pos) (tRevT X.K te) := by
  constructor
  intro pins s σ H Q I h
  refine Subscript_ (thn (he.run pins s σ H _ I h) fun v s1 ⟨x, H1, I1, r1, a, xs, ex, hx, q⟩ => ?_)
  subst ex
  cases r1
  have minus : PO X (some (.UnaryOp .USub (.Constant (.int 1) k p1) p2)) (tPart (tUn (rU fun i => .int (-i)) (tC (.int 1)))) := po_some (pe_un un_neg pe_int)
  refine wpAny_Slice ?_
  rw [evalPart_none]
  refine wpAny_pure (wpAny_pure ?_)
  refine thn (minus.run pins s1 σ H1 (fun o H2 => o = some (-1) ∧ H2 = H1) I1 ⟨1, rfl, -1, rfl, rfl, rfl⟩) fun vs s2 ⟨o, H2, I2, ps, eo, e2⟩ => ?_
  subst eo e2
  have I3 : Inv X pins σ H2 { s2 with heap := s2.heap.push { cls := .type "slice", data := .fields #[.none, .none, vs] } } := I2.kept (t' := s2.toks) fun b ob q => Heap.get?_push_of_some _ q
  obtain ⟨its, r, ht, hz⟩ := I3.tuple hx
  have hlen : its.toArray.size = xs.length := by rw [List.size_toArray]; exact r.length.symm
  show wpAny (model X.prog X.w) X.A (subscriptTail e (.Slice none none (some (.UnaryOp .USub (.Constant (.int 1) k p1) p2)) p3) (.ref a) (.ref s2.heap.objs.size)) (EP X pins σ Q) X.xe _
  refine tail_any (ops := [.ref a, .ref s2.heap.objs.size]) ht.typeIs PyProof.Rows.slot_tuple_getitem.lookup ?_ (by with_unfolding_all rfl)
  refine item_tup_rev ht (Heap.IsSliceOf.new _ .none .none vs) ps ?_ (by rw [hlen]; exact hz)
  refine ⟨.ref _, _, I3.laid (t' := s2.toks) (o := .tup xs.reverse) (fun b ob q => Heap.get?_push_of_some _ q) (Nat.le_refl _) ?_, rfl, q _ (I3.hok.fresh (Nat.le_refl _))⟩
  exact ⟨by rw [List.length_reverse]; exact hz, _, r.reverse, IsTup.new _ _⟩
end Mx
set_option Elab.async false
set_option linter.all false
set_option maxRecDepth 100000
set_option maxHeartbeats 6500000
namespace Mx
open L2 PySem PySem.Spec PyProof.Rows
/-! ### a def's promise where no repr is under way -/
structure FnG (P : Program) (w : World) (K : PySem.W.Frag) (mg : Str → Option Value) (base : Heap) (C : CXT) (k : Nat) (f : Addr) (fd : FuncData) (ps : List Str) (sp : Sp) : Prop where
  few : ∀ vs H Q E, sp vs H Q E → vs.length = ps.length
  go : ∀ (A : Around) (out : List PySem.Env) (s : Shared) (H : Hp) (args : Args) (us : List Value) (vs : List V) (Q : VK) (E : XK),
    A.guards = some [] → Room k A → Env0 P w K mg base A out s H → BindsTo s fd args (ps.zip us) → Vals vs us → sp vs H Q E →
    codeAny (model P w) A (.call (.ref f) args) (CR C out P w H s Q E) s
theorem FnG.lift {P : Program} {w : World} {K : PySem.W.Frag} {mg : Str → Option Value} {base : Heap} {C : CXT} {j k : Nat} {f : Addr} {fd : FuncData} {ps : List Str} {sp : Sp}
    (F : FnG P w K mg base C j f fd ps sp) (h : j ≤ k) : FnG P w K mg base C k f fd ps sp :=
  ⟨F.few, fun A out s H args us vs Q E hg hr => F.go A out s H args us vs Q E hg (hr.mono h)⟩
/-- a def by its body; the body's reading is chosen at each entry -/
theorem fnG_of {P : Program} {w : World} {K : PySem.W.Frag} {mg : Str → Option Value} {base : Heap} {x qual : Str} {st : Stmt} {f : Addr} {fd : FuncData} {N ps : List Str} {k : Nat} {sp : Sp} {dvs : List V} {kws : List (Str × V)}
    (F : FunD K x qual (defArgs st) (defBody st) (defScope st) dvs kws f fd) (S : FnScope N ps (defScope st)) (few : ∀ vs H Q E, sp vs H Q E → vs.length = ps.length)
    (hb : ∀ (cdv : Value) (A : Around) (out : List PySem.Env) (s : Shared) (H : Hp) (vs : List V) (Q : VK) (E : XK), A.guards = some [] →
      Room k (A.deeper (envOfC qual (defScope st) s.heap.objs.size f cdv)) → sp vs H Q E →
      ∃ t, PSs (cxOf (L2.CX P w) P w K mg base N qual (defScope st) f cdv A out s H E) (defBody st) t ∧ t { nx := fun _ H' => Q .non H', rt := Q } (L2.start N vs) H) :
    FnG P w K mg base (L2.CX P w) (k + 1) f fd ps sp := by
  (obtain ⟨oc, od, dV, kV, doc, pm, an, cdv, ct, osl, rfl, lk, hcd, _, _⟩ := F.ex)
  constructor
  · exact few
  · intro A out s H args us vs Q E hg hr e0 hbd r hsp
    have hl := few _ _ _ _ hsp
    have old : ∀ b o, base.get? b = some o → s.heap.get? b = some o := fun b o e => (e0.bs b o e).1
    have hk : ∀ y ∈ ps.zip us, (defScope st).names.lookup y.1 = some .local ∨ ((defScope st).names.lookup y.1 = some .cell ∧ ((cellsFrom (s.heap.objs.size + 1) (defScope st).names []).lookup y.1).isSome = true) := by
      rintro ⟨n, v⟩ hy
      (rcases S.par n (List.of_mem_zip hy).1 with q | q)
      · exact Or.inl q
      · exact Or.inr ⟨q, PySem.W.cellsFrom_some _ _ _ (Or.inl q)⟩
    have KX := e0.mod.kin.keeps old
    refine codeAny_call_function hr.depth (KX _ _ lk) rfl S.co S.gen rfl (PySem.W.codeRec_of KX hcd) (hbd _ _ _ _ (wpAny_newFunctionEnv_cells S.kind hk fun env he s1 z => ?_))
    subst he
    refine ⟨(e0.mod.nolimit.keeps old).keeps z.toInCall.keep, codeAny_func ?_⟩
    obtain ⟨t, ht, hq⟩ := hb cdv A out s H vs Q E hg (hr.deeper _) hsp
    have I := inv_start (CX := L2.CX P w) (N := N) (qual := qual) (f := f) (cd := cdv) (E := E) S hr.hd e0 hl r z
    refine wpAny_mono (ht.run [] s1 (L2.start N vs) H _ I hq) (fun fl s' hs => ?_) (fun _ _ hs => hs)
    cases fl with
    | next =>
      obtain ⟨σ', H', J, q⟩ := hs
      exact ⟨.non, H', J.os, J.bare, J.base, J.hok, rfl, q⟩
    | ret u =>
      (obtain ⟨v, σ', H', J, rv, q⟩ := hs)
      exact ⟨v, H', J.os, J.bare, J.base, J.hok, rv, q⟩
    | brk => obtain ⟨_, _, _, q⟩ := hs; exact q.elim
    | cont => obtain ⟨_, _, _, q⟩ := hs; exact q.elim
section
variable {X : Cx} {C : CXT} {k : Nat} {f : Addr} {fd : FuncData} {ps : List Str} {sp : Sp} {E : L2.St → XK}
theorem runG {pins : List (Addr × Obj)} {σ : L2.St} {H : Hp} {s : Shared} {Q : VK} {us : List Value} {vs : List V} (F : FnG X.prog X.w X.K X.mg X.base C k f fd ps sp)
    (hg : X.A.guards = some []) (hr : Room k X.A) (hb : Binds X.K fd ps []) (hx : PassesAt C X σ (E σ)) (I : Inv X pins σ H s) (r : Vals vs us) (h : sp vs H Q (E σ)) :
    wpAny (model X.prog X.w) X.A
      (call (.ref f) us) (EP X pins σ Q) X.xe s := by
  have hl : (us ++ []).length = ps.length := by rw [List.append_nil, ← r.length]; exact F.few _ _ _ _ h
  have hb' := hb s us I.kIn hl
  rw [List.append_nil] at hb'
  refine wpAny_call (codeAny_mono (F.go X.A X.stack s H ⟨us, []⟩ us vs Q (E σ) hg hr I.env0 hb' r h) fun o s' hq => ?_)
  cases o with
  | error e => (exact hx pins H s e s' I hq)
  | ok fl =>
    cases fl with
    | ret u => exact I.after hq
    | _ => exact False.elim hq
def tCallD (sp : Sp) (ds : List V) (E : L2.St → XK) (t : TA) : TE := fun σ H Q => t σ H fun vs H1 => sp (vs ++ ds) H1 Q (E σ)
theorem pe_callG {x : Str} {p pos : Pos} {e : Expr} {es : List Expr} {t : TA} (F : FnG X.prog X.w X.K X.mg X.base C k f fd ps sp) (hg : X.A.guards = some []) (hr : Room k X.A) (gl : Gl X x) (hm : X.mg x = some (.ref f))
    (hk : PySem.W.keepIn X.K (.ref f) = true) (hb : Binds X.K fd ps []) (hx : ∀ σ, PassesAt C X σ (E σ)) (ha : PA X (e :: es) t) (hd : (x == ("__debug__" : Str)) = false)
    (he : starEach (e :: es) X.env = (false, eval e X.env) :: starEach es X.env)
    (hpl : (backTo pos (starEach es X.env)).any (·.1) = false) :
    PE X (.Call (.Name x p) (e :: es) [] pos) (tCallD sp [] E t) := by
  constructor
  intro pins s σ H Q I h
  refine wpAny_Call_Name_kw (ld_glob I gl hm ?_ hd)
  (refine PySem.W.callWith_K (h₀ := X.base) I.ok.mod.kin hk (thn (ha.run pos pins s σ H _ I h) fun us s1 ⟨vs, H1, I1, r, q⟩ => ⟨I1.kIn, ?_⟩) he hpl)
  have q1 : sp (vs ++ []) H1 Q (E σ) := q
  rw [List.append_nil] at q1
  exact runG F hg hr hb (hx σ) I1 r q1
/-- .. called with its last parameters left out -/
theorem runGd {pins : List (Addr × Obj)} {σ : L2.St} {H : Hp} {s : Shared} {Q : VK} {us ds : List Value} {vs dvs : List V} (F : FnG X.prog X.w X.K X.mg X.base C k f fd ps sp)
    (hg : X.A.guards = some []) (hr : Room k X.A) (hb : Binds X.K fd ps ds) (hd : Vals dvs ds) (hx : PassesAt C X σ (E σ)) (I : Inv X pins σ H s) (r : Vals vs us) (h : sp (vs ++ dvs) H Q (E σ)) :
    wpAny (model X.prog X.w) X.A
      (call (.ref f) us) (EP X pins σ Q) X.xe s := by
  have r2 : Vals (vs ++ dvs) (us ++ ds) := r.append hd
  have hl : (us ++ ds).length = ps.length := by rw [← r2.length]; exact F.few _ _ _ _ h
  have hb' := hb s us I.kIn hl
  refine wpAny_call (codeAny_mono (F.go X.A X.stack s H ⟨us, []⟩ (us ++ ds) (vs ++ dvs) Q (E σ) hg hr I.env0 hb' r2 h) fun o s' hq => ?_)
  cases o with
  | error e => (exact hx pins H s e s' I hq)
  | ok fl =>
    cases fl with
    | ret u => exact I.after hq
    | _ => exact False.elim hq
theorem pe_callGd {x : Str} {p pos : Pos} {e : Expr} {es : List Expr} {t : TA} {ds : List Value} {dvs : List V} (F : FnG X.prog X.w X.K X.mg X.base C k f fd ps sp) (hg : X.A.guards = some []) (hr : Room k X.A) (gl : Gl X x) (hm : X.mg x = some (.ref f))
    (hk : PySem.W.keepIn X.K (.ref f) = true) (hb : Binds X.K fd ps ds) (hd' : Vals dvs ds) (hx : ∀ σ, PassesAt C X σ (E σ)) (ha : PA X (e :: es) t) (hd : (x == ("__debug__" : Str)) = false)
    (he : starEach (e :: es) X.env = (false, eval e X.env) :: starEach es X.env)
    (hpl : (backTo pos (starEach es X.env)).any (·.1) = false) :
    PE X (.Call (.Name x p) (e :: es) [] pos) (tCallD sp dvs E t) := by
  constructor
  intro pins s σ H Q I h
  refine wpAny_Call_Name_kw (ld_glob I gl hm ?_ hd)
  (refine PySem.W.callWith_K (h₀ := X.base) I.ok.mod.kin hk (thn (ha.run pos pins s σ H _ I h) fun us s1 ⟨vs, H1, I1, r, q⟩ => ⟨I1.kIn, ?_⟩) he hpl)
  have q1 : sp (vs ++ dvs) H1 Q (E σ) := q
  exact runGd F hg hr hb hd' (hx σ) I1 r q1
end
theorem _root_.L2.PE.imp {X : Cx} {e : Expr} {t t' : TE} (h : PE X e t) (k : ∀ σ H Q, t' σ H Q → t σ H Q) : PE X e t' := ⟨fun pins s σ H Q I q => h.run pins s σ H Q I (k σ H Q q)⟩
theorem _root_.L2.PE.or {X : Cx} {e : Expr} {t t' : TE} (h : PE X e t) (h' : PE X e t') : PE X e (fun σ H Q => t σ H Q ∨ t' σ H Q) := ⟨fun pins s σ H Q I q => q.elim (h.run pins s σ H Q I) (h'.run pins s σ H Q I)⟩
theorem _root_.L2.PT.imp {X : Cx} {e : Expr} {t t' : TT} (h : PT X e t) (k : ∀ σ H Q, t' σ H Q → t σ H Q) : PT X e t' := ⟨fun pins s σ H Q I q => h.run pins s σ H Q I (k σ H Q q)⟩
theorem _root_.L2.PW.imp {X : Cx} {e : Expr} {t t' : TT} (h : PW X e t) (k : ∀ σ H Q, t' σ H Q → t σ H Q) : PW X e t' := ⟨fun wh pins s σ H Q I q => h.run wh pins s σ H Q I (k σ H Q q)⟩
theorem _root_.L2.PA.imp {X : Cx} {e : List Expr} {t t' : TA} (h : PA X e t) (k : ∀ σ H Q, t' σ H Q → t σ H Q) : PA X e t' := ⟨fun p pins s σ H Q I q => h.run p pins s σ H Q I (k σ H Q q)⟩
theorem _root_.L2.PS.imp {X : Cx} {e : Stmt} {t t' : TS} (h : PS X e t) (k : ∀ D σ H, t' D σ H → t D σ H) : PS X e t' := ⟨fun pins s σ H D I q => h.run pins s σ H D I (k D σ H q)⟩
theorem _root_.L2.PSs.imp {X : Cx} {e : List Stmt} {t t' : TS} (h : PSs X e t) (k : ∀ D σ H, t' D σ H → t D σ H) : PSs X e t' := ⟨fun pins s σ H D I q => h.run pins s σ H D I (k D σ H q)⟩
theorem _root_.L2.PI.imp {X : Cx} {tg e : Expr} {t t' : TI} (h : PI X tg e t) (k : ∀ σ H R, t' σ H R → t σ H R) : PI X tg e t' := ⟨fun pins s σ H Q I q => h.run pins s σ H Q I (k σ H Q q)⟩
theorem _root_.L2.PI.or {X : Cx} {tg e : Expr} {t t' : TI} (h : PI X tg e t) (h' : PI X tg e t') : PI X tg e (fun σ H R => t σ H R ∨ t' σ H R) := ⟨fun pins s σ H Q I q => q.elim (h.run pins s σ H Q I) (h'.run pins s σ H Q I)⟩
/-! ### lists without stars -/
theorem star_cons {e : Expr} (h : noStar e = true) (es : List Expr) (env : PySem.Env) : starEach (e :: es) env = (false, eval e env) :: starEach es env := by
  cases e <;> first | rfl | cases h
theorem cpL_star {f : Expr → Option Ex} : ∀ {es : List Expr} {ms : Exs}, cpL f es = some ms → ∀ e ∈ es, noStar e = true
  | [], _, _, e, he => by cases he
  | e :: es, ms, h, e', he => by
    simp only [cpL] at h
    split at h
    · rename_i hn
      split at h
      · rename_i m ms' h1 h2
        (rcases List.mem_cons.mp he with rfl | he)
        · exact hn
        · exact cpL_star h2 e' he
      · cases h
    · cases h
theorem plain_any (pos : Pos) (env : PySem.Env) : ∀ {es : List Expr}, (∀ e ∈ es, noStar e = true) → (backTo pos (starEach es env)).any (·.1) = false
  | [], _ => rfl
  | e :: es, h => by
    rw [star_cons (h e List.mem_cons_self)]
    show (false || (backTo pos (starEach es env)).any (·.1)) = false
    rw [plain_any pos env fun e' he => h e' (List.mem_cons_of_mem _ he)]
    rfl
theorem plain_all (pos : Pos) (env : PySem.Env) : ∀ {es : List Expr}, (∀ e ∈ es, noStar e = true) → (backTo pos (starEach es env)).all (fun x => !x.1) = true
  | [], _ => rfl
  | e :: es, h => by
    rw [star_cons (h e List.mem_cons_self)]
    show (!false && (backTo pos (starEach es env)).all (fun x => !x.1)) = true
    rw [plain_all pos env fun e' he => h e' (List.mem_cons_of_mem _ he)]
    rfl
/-! ### own methods, own classes -/
theorem plain_form {env : PySem.Env} {es : List Expr} {pos : Pos} (h : ∀ e ∈ es, noStar e = true) (hn : es.length < 20) : methodCallForm (es.length + ([] : List Keyword).length) (backTo pos (starEach es env)) (backToKw pos (keywordEach [] env)) = true := by
  unfold methodCallForm
  have z : (backToKw pos (keywordEach [] env)) = [] := rfl
  rw [plain_all pos env h, z]
  simp only [List.all_nil, Bool.and_self, Bool.true_and, List.length_nil, List.isEmpty_nil, if_true]
  exact decide_eq_true (by omega)
theorem meth_eval {env : PySem.Env} {o : Expr} {m : Str} {es : List Expr} {ap p : Pos} (hb : attributeBase o m env (eval o env) = eval o env) (h : ∀ e ∈ es, noStar e = true) (hn : es.length < 20) (hl : (ap.endLine == p.line) = true) :
    eval (.Call (.Attribute o m ap) es [] p) env = (eval o env >>= fun ov => standAt ap.atName >>= fun _ => holding [ov] (getMethod ov m (L2.plainOf o env)) >>= fun fx => callWith p fx.1 fx.2 (backTo p (starEach es env)) (backToKw p (keywordEach [] env))) := by
  rw [arm_eval_Call, hb]
  exact congrArg _ (funext fun ov => congrArg _ (funext fun _ => L2.mcall_line (plain_form h hn) hl))
section
variable {X : Cx} {C : CXT} {k : Nat} {f D : Addr} {fd : FuncData} {ps : List Str} {sp : Sp} {E : L2.St → XK}
/-- f() -/
theorem pe_callG0 {x : Str} {p pos : Pos} (F : FnG X.prog X.w X.K X.mg X.base C k f fd ps sp) (hg : X.A.guards = some []) (hr : Room k X.A) (gl : Gl X x) (hm : X.mg x = some (.ref f))
    (hk : PySem.W.keepIn X.K (.ref f) = true) (hb : Binds X.K fd ps []) (hx : ∀ σ, PassesAt C X σ (E σ)) (hd : (x == ("__debug__" : Str)) = false) :
    PE X (.Call (.Name x p) [] [] pos) (tCallD sp [] E fun _ H Q => Q [] H) := by
  constructor
  intro pins s σ H Q I h
  exact wpAny_Call_Name_kw (ld_glob I gl hm (PySem.W.callWith_K0 I.kIn hk (runG F hg hr hb (hx σ) I .nil h)) hd)
def tMethG (D : Addr) (m : Str) (sp : Sp) (E : L2.St → XK) (to : TE) (t : TA) : TE := fun σ H Q => to σ H fun x H1 => (∃ a dx fs, x = .ref a ∧ H1 a = some (.ins D dx fs) ∧ fs.lookup m = none) ∧ t σ H1 fun vs H2 => sp (x :: vs) H2 Q (E σ)
/-- o.m(..) -/
theorem pe_methG {o : Expr} {m : Str} {es : List Expr} {ap p : Pos} {to : TE} {t : TA} (F : FnG X.prog X.w X.K X.mg X.base C k f fd ps sp) (hg : X.A.guards = some []) (hr : Room k X.A) (cl : Cls X.K D) (hm : Meth X.K D m f) (hb : Binds X.K fd ps [])
    (hx : ∀ σ, PassesAt C X σ (E σ)) (he : PE X o to) (ha : PA X es t) (hbase : attributeBase o m X.env (eval o X.env) = eval o X.env) (hs : ∀ e ∈ es, noStar e = true) (hn : es.length < 20) (hl : (ap.endLine == p.line) = true) (h0 : es = [] → ∀ σ H (Q : List V → Hp → Prop), t σ H Q → Q [] H) :
    PE X (.Call (.Attribute o m ap) es [] p) (tMethG D m sp E to t) := by
  constructor
  intro pins s σ H Q I h
  refine PySem.W.methodCall_KW (pl := L2.plainOf o X.env) (thn (he.run pins s σ H _ I h) fun u s1 hh => ?_) (meth_eval hbase hs hn hl)
  obtain ⟨x, H1, I1, rx, ⟨a, dx, fs, rfl, ea, l⟩, q⟩ := hh
  cases rx
  refine getmeth_ok I1 ea cl hm l ?_
  cases es with
  | nil =>
    refine PySem.W.callWith_K0 (first := [.ref a]) I1.kIn hm.kp ?_
    exact runG (us := [.ref a]) (vs := [.ref a]) F hg hr hb (hx σ) I1 (.cons rfl .nil) (h0 rfl _ _ _ q)
  | cons e es =>
    refine PySem.W.callWith_K (first := [.ref a]) (h₀ := X.base) I1.ok.mod.kin hm.kp (thn (ha.run p pins s1 σ H1 _ I1 q) fun us s2 h2 => ?_) (star_cons (hs e List.mem_cons_self) _ _) (plain_any _ _ fun e he => hs e (List.mem_cons_of_mem _ he))
    obtain ⟨vs, H2, I2, r2, q2⟩ := h2
    exact ⟨I2.kIn, runG (us := .ref a :: us) (vs := .ref a :: vs) F hg hr hb (hx σ) I2 (.cons rfl r2) q2⟩
def tMakeG (D : Addr) (sp : Sp) (E : L2.St → XK) (t : TA) : TE := fun σ H Q => t σ H fun vs H1 => ∀ x dx, H1 x = none → H1 dx = none → dx ≠ x → sp (.ref x :: vs) (upd (upd H1 dx (.own x)) x (.ins D dx [])) (fun v H2 => v = .non ∧ Q (.ref x) H2) (E σ)
theorem runMk {pins : List (Addr × Obj)} {σ : L2.St} {H : Hp} {s : Shared} {Q : VK} {us : List Value} {vs : List V} (M : Mk X.K D f) (F : FnG X.prog X.w X.K X.mg X.base C k f fd ps sp) (hg : X.A.guards = some []) (hr : Room (k + 1) X.A)
    (hb : Binds X.K fd ps []) (hx : PassesAt C X σ (E σ)) (I : Inv X pins σ H s) (r : Vals vs us)
    (h : ∀ x dx, H x = none → H dx = none → dx ≠ x → sp (.ref x :: vs) (upd (upd H dx (.own x)) x (.ins D dx [])) (fun v H2 => v = .non ∧ Q (.ref x) H2) (E σ)) :
    wpAny (model X.prog X.w) X.A (call (.ref D) us) (EP X pins σ Q) X.xe s := by
  have h1 := h (s.heap.objs.size + 1) s.heap.objs.size (I.hok.fresh (Nat.le_succ _)) (I.hok.fresh (Nat.le_refl _)) (Nat.ne_of_lt (Nat.lt_succ_self _))
  have J := Inv.made (C := D) I
  have rr : Vals (V.ref (s.heap.objs.size + 1) :: vs) (Value.ref (s.heap.objs.size + 1) :: us) := .cons rfl r
  have hl : (Value.ref (s.heap.objs.size + 1) :: us ++ []).length = ps.length := by rw [List.append_nil, ← rr.length]; exact F.few _ _ _ _ h1
  have hb' := hb _ (Value.ref (s.heap.objs.size + 1) :: us) J.kIn hl
  rw [List.append_nil] at hb'
  have hg2 : (X.A.under (.builtin "type.__call__" ⟨.ref D :: us, []⟩)).guards = some [] := by
    rw [← hg]
    first | rfl | simp [Around.under, Code.weight, Code.isCreation, Code.isGuard, Code.isCaller, Code.frames, Code.isFrame, guardIds]
  refine wpAny_call (make_map (f := f) I.kIn M.makes M.init (beq_iff_eq.mp M.fn) (codeAny_mono (F.go _ X.stack _ _ ⟨Value.ref (s.heap.objs.size + 1) :: us, []⟩ (Value.ref (s.heap.objs.size + 1) :: us) _ _ (E σ) hg2 (hr.make D us []) (J.env0.make D us []) hb' rr h1) fun o s' hq => ?_))
  cases o with
  | error e => exact hx pins _ _ e s' J hq
  | ok fl =>
    cases fl with
    | ret u =>
      obtain ⟨v, H', J2, rv, ev, q3⟩ := J.after hq
      subst ev
      exact ⟨rv, V.ref (s.heap.objs.size + 1), H', J2, rfl, q3⟩
    | _ => exact False.elim hq
/-- C(..) -/
theorem pe_makeG {x : Str} {p pos : Pos} {es : List Expr} {t : TA} (M : Mk X.K D f) (F : FnG X.prog X.w X.K X.mg X.base C k f fd ps sp) (hg : X.A.guards = some []) (hr : Room (k + 1) X.A) (gl : Gl X x) (hm : X.mg x = some (.ref D)) (hb : Binds X.K fd ps [])
    (hx : ∀ σ, PassesAt C X σ (E σ)) (ha : PA X es t) (hd : (x == ("__debug__" : Str)) = false) (hs : ∀ e ∈ es, noStar e = true) (h0 : es = [] → ∀ σ H (Q : List V → Hp → Prop), t σ H Q → Q [] H) : PE X (.Call (.Name x p) es [] pos) (tMakeG D sp E t) := by
  constructor
  intro pins s σ H Q I h
  refine wpAny_Call_Name_kw (ld_glob I gl hm ?_ hd)
  cases es with
  | nil =>
    exact PySem.W.callWith_K0 I.kIn M.kp (runMk (us := []) M F hg hr hb (hx σ) I .nil (h0 rfl _ _ _ h))
  | cons e es =>
    refine PySem.W.callWith_K (h₀ := X.base) I.ok.mod.kin M.kp (thn (ha.run pos pins s σ H _ I h) fun us s1 h1 => ?_) (star_cons (hs e List.mem_cons_self) _ _) (plain_any _ _ fun e he => hs e (List.mem_cons_of_mem _ he))
    obtain ⟨vs, H1, I1, r1, q1⟩ := h1
    exact ⟨I1.kIn, runMk M F hg hr hb (hx σ) I1 r1 q1⟩
end
/-! ### readings by the machine -/
def GoL (K : PySem.W.Frag) (ca : Nat → Addr) (E : XK) (φ : List Addr) (H : Hp) (r : Rs (List D)) (Q : List V → Hp → Prop) : Prop := match r with
  | .ok ds S' => ∀ φ' H' vs, Le φ H φ' H' → RS K ca φ' H' S' → RVs K φ' H' ds vs → Q vs H'
  | .er x S' => ∀ φ' H' c dd, Le φ H φ' H' → RS K ca φ' H' S' → RX K ca φ' H' x c dd → E c dd H'
/-- a def's promise: what the machine gives -/
def spR (K : PySem.W.Frag) (ca : Nat → Addr) (f : List D → Sto → Mo D) : Sp := fun vs H Q E => ∃ φ S ds r, RVs K φ H ds vs ∧ RS K ca φ H S ∧ f ds S = some r ∧ Go K ca E φ H r Q
/-- the walk J is the machine's j -/
def JOk (K : PySem.W.Frag) (ca : Nat → Addr) (φ : List Addr) (H : Hp) (J : It) (j : Itr) : Prop := ∀ φ' H' S i o, Le φ H φ' H' → RS K ca φ' H' S → nxt j i S = some o → match o with
  | none => J.stop i H'
  | some d => J.go i H' ∧ ∀ x H'', J.yld i H' x H'' → Le φ' H' φ' H'' ∧ RS K ca φ' H'' S ∧ RV K φ' H'' d x
section
variable (K : PySem.W.Frag) (ca : Nat → Addr) (R : Nat → List D → Sto → Mo D) (G : List D) (E : L2.St → XK)
def tE (m : Ex) : TE := fun σ H Q => ∃ ρ S φ r, RE K φ H ρ σ ∧ RS K ca φ H S ∧ ev R G m false ρ S = some r ∧ Go K ca (E σ) φ H r Q
def tT (m : Ex) : TT := fun σ H Q => ∃ ρ S φ r, RE K φ H ρ σ ∧ RS K ca φ H S ∧ ev R G m true ρ S = some r ∧ Go K ca (E σ) φ H r fun v H' => ∃ b, v = .bl b ∧ Q b H'
def tEs (m : Exs) : TA := fun σ H Q => ∃ ρ S φ r, RE K φ H ρ σ ∧ RS K ca φ H S ∧ evs R G m ρ S = some r ∧ GoL K ca (E σ) φ H r Q
def tI (k : Ib) (as : Exs) : TI := fun σ H P => ∃ ρ S φ r, RE K φ H ρ σ ∧ RS K ca φ H S ∧ evs R G as ρ S = some r ∧ match r with
  | .ok ds S' => ∃ j, it1 S' k ds = some j ∧ ∀ φ' H' J, Le φ H φ' H' → RS K ca φ' H' S' → JOk K ca φ' H' J j → P J H'
  | .er x S' => ∀ φ' H' c dd, Le φ H φ' H' → RS K ca φ' H' S' → RX K ca φ' H' x c dd → E σ c dd H'
end
section
variable {K : PySem.W.Frag} {ca : Nat → Addr} {R : Nat → List D → Sto → Mo D} {G : List D} {E : L2.St → XK} {φ φ' : List Addr} {H H' : Hp} {S S' : Sto} {ρ : Rho} {σ : L2.St}
theorem GoL.mono {E : XK} {r : Rs (List D)} {Q : List V → Hp → Prop} (h : GoL K ca E φ H r Q) (e : Le φ H φ' H') : GoL K ca E φ' H' r Q := by
  cases r with
  | ok d S' => exact fun φ2 H2 v le => h φ2 H2 v (e.trans le)
  | er x S' => exact fun φ2 H2 c dd le => h φ2 H2 c dd (e.trans le)
/-- one expression, then the rest -/
theorem tE_bnd {m : Ex} {f : D → Sto → Mo D} {r : Rs D} {Q Q1 : VK} (he : RE K φ H ρ σ) (hs : RS K ca φ H S) (h : bnd (ev R G m false ρ S) f = some r) (go : Go K ca (E σ) φ H r Q)
    (k : ∀ d S1 φ1 H1 v, Le φ H φ1 H1 → RS K ca φ1 H1 S1 → RV K φ1 H1 d v → f d S1 = some r → Q1 v H1) : tE K ca R G E m σ H Q1 := by
  cases q : ev R G m false ρ S with
  | none => rw [q] at h; cases h
  | some o =>
    rw [q] at h
    cases o with
    | ok d S1 => exact ⟨ρ, S, φ, .ok d S1, he, hs, q, fun φ1 H1 v le rs rv => k d S1 φ1 H1 v le rs rv h⟩
    | er x S1 =>
      cases h
      exact ⟨ρ, S, φ, .er x S1, he, hs, q, go⟩
theorem tT_bnd {m : Ex} {f : D → Sto → Mo D} {r : Rs D} {Q : VK} {Q1 : Bool → Hp → Prop} (he : RE K φ H ρ σ) (hs : RS K ca φ H S) (h : bnd (ev R G m true ρ S) f = some r) (go : Go K ca (E σ) φ H r Q)
    (k : ∀ d S1 φ1 H1 v, Le φ H φ1 H1 → RS K ca φ1 H1 S1 → RV K φ1 H1 d v → f d S1 = some r → ∃ b, v = .bl b ∧ Q1 b H1) : tT K ca R G E m σ H Q1 := by
  cases q : ev R G m true ρ S with
  | none => rw [q] at h; cases h
  | some o =>
    rw [q] at h
    cases o with
    | ok d S1 => exact ⟨ρ, S, φ, .ok d S1, he, hs, q, fun φ1 H1 v le rs rv => k d S1 φ1 H1 v le rs rv h⟩
    | er x S1 =>
      cases h
      exact ⟨ρ, S, φ, .er x S1, he, hs, q, go⟩
theorem tEs_bnd {m : Exs} {f : List D → Sto → Mo D} {r : Rs D} {Q : VK} {Q1 : List V → Hp → Prop} (he : RE K φ H ρ σ) (hs : RS K ca φ H S) (h : bnd (evs R G m ρ S) f = some r) (go : Go K ca (E σ) φ H r Q)
    (k : ∀ d S1 φ1 H1 v, Le φ H φ1 H1 → RS K ca φ1 H1 S1 → RVs K φ1 H1 d v → f d S1 = some r → Q1 v H1) : tEs K ca R G E m σ H Q1 := by
  cases q : evs R G m ρ S with
  | none => rw [q] at h; cases h
  | some o =>
    rw [q] at h
    cases o with
    | ok d S1 => exact ⟨ρ, S, φ, .ok d S1, he, hs, q, fun φ1 H1 v le rs rv => k d S1 φ1 H1 v le rs rv h⟩
    | er x S1 =>
      cases h
      exact ⟨ρ, S, φ, .er x S1, he, hs, q, go⟩
theorem lft_some {α : Type} {o : Option (α × Sto)} {r : Rs α} (h : lft o = some r) : ∃ a S, o = some (a, S) ∧ r = .ok a S := by
  cases o with
  | none => cases h
  | some p => cases h; exact ⟨_, _, rfl, rfl⟩
theorem lf0_some {α : Type} {o : Option α} {S : Sto} {r : Rs α} (h : lf0 o S = some r) : ∃ a, o = some a ∧ r = .ok a S := by
  cases o with
  | none => cases h
  | some p => cases h; exact ⟨_, rfl, rfl⟩
theorem Go.here {E : XK} {d : D} {v : V} {Q : VK} (go : Go K ca E φ H (.ok d S) Q) (rs : RS K ca φ H S) (rv : RV K φ H d v) : Q v H := go φ H v (Le.refl _ _) rs rv
end
end Mx
set_option Elab.async false
set_option linter.all false
set_option maxRecDepth 100000
set_option maxHeartbeats 6500000
namespace Mx
open L2 PySem PySem.Spec PyProof.Rows
/-- what stands in a written dict -/
def KDs (K : PySem.W.Frag) (es : List DictEntry) (kvs : List (Str × D)) : Prop := Paired (fun (e : DictEntry) (p : Str × D) => (∃ t, e.key = .str p.1 t) ∧ ∃ v, L2.RelV v e.val ∧ ∀ φ H, RV K φ H p.2 v) es kvs
/-- the context, its names, its scope (B: a comprehension's block) -/
structure CK (T : Tb) (N : List Str) (K : PySem.W.Frag) (ca : Nat → Addr) (R : Nat → List D → Sto → Mo D) (G : List D) (k : Nat) (X : Cx) (sc : Scope) (B : Bool) (E : L2.St → XK) : Prop where
  hs : X.env.scope = sc
  knd : sc.kind = .function
  hN : X.N = N
  nd : N.Nodup
  hK : X.K = K
  calm : X.calm = true
  gd : X.A.guards = some []
  room : Room (2 * k + 1) X.A
  fnl : B = false → ∀ x, X.fn x = true
  fns : ∀ x, T.fn.contains x = true → ∃ f fd ps, X.mg x = some (.ref f) ∧ PySem.W.keepIn X.K (.ref f) = true ∧ Binds X.K fd ps [] ∧ FnG X.prog X.w X.K X.mg X.base (L2.CX X.prog X.w) (2 * k) f fd ps (spR K ca (R (T.fn.idxOf x)))
  bis : ∀ x, T.bis.contains x = true → X.mg x = none
  mth : ∀ x, T.mth.contains x = true → ∀ b, mbOf x = some b → X.mg x = some (biV b)
  gls : ∀ x, T.gl.contains x = true → ∀ d, G[T.gl.idxOf x]? = some d → ∃ u v, X.mg x = some u ∧ L2.RelV v u ∧ ∀ φ H, RV K φ H d v
  gds : ∀ x kvs, T.gd.lookup x = some kvs → ∃ a es n, X.mg x = some (.ref a) ∧ KDict X.K X.w a es n ∧ KDs K es.toList kvs
  dfs : ∀ x n ds, T.df.lookup x = some (n, ds) → T.fn.contains x = true → ∃ f fd ps us vs, X.mg x = some (.ref f) ∧ PySem.W.keepIn X.K (.ref f) = true ∧ Binds X.K fd ps us ∧ Vals vs us ∧ (∀ φ H, RVs K φ H ds vs) ∧ FnG X.prog X.w X.K X.mg X.base (L2.CX X.prog X.w) (2 * k) f fd ps (spR K ca (R (T.fn.idxOf x)))
  pas : ∀ σ, PassesAt (L2.CX X.prog X.w) X σ (E σ)
  tks : B = false → Takes X fun cls d σ H => E σ cls d H
  stk : B = false → X.stack = X.env :: X.outer ∧ X.env.frame = some X.env.locals
  xcs : ∀ x c f, T.xc.lookup x = some (c, f) → X.mg x = some (.ref (ca c)) ∧ Xp.XCls X.prog X.w X.K (ca c) f ∧ X.mg "super" = none
  xhs : ∀ x yes no, T.xh.lookup x = some (yes, no) → ∃ C, (X.mg x = some C ∨ (X.mg x = none ∧ bootBuiltins x = some C)) ∧ (∀ c ∈ yes, PySem.W.exmOne X.K (.ref (ca c)) C = some true ∧ XfC X.K (ca c) ∧ ∀ f, T.xf.contains f = true → PySem.W.findIn X.K (.ref (ca c)) f = some none) ∧ ∀ c ∈ no, PySem.W.exmOne X.K (.ref (ca c)) C = some false
  cls : ∀ x c i, T.cl.lookup x = some (c, i) → X.mg x = some (.ref (ca c)) ∧ ∃ f fd ps, Mk X.K (ca c) f ∧ Binds X.K fd ps [] ∧ FnG X.prog X.w X.K X.mg X.base (L2.CX X.prog X.w) (2 * k) f fd ps (spR K ca (R i))
  mes : ∀ m c i, T.me.lookup m = some (c, i) → Cls X.K (ca c) ∧ ∃ f fd ps, Meth X.K (ca c) m f ∧ Binds X.K fd ps [] ∧ FnG X.prog X.w X.K X.mg X.base (L2.CX X.prog X.w) (2 * k) f fd ps (spR K ca (R i))
  fds : ∀ f cs, T.fd.lookup f = some cs → ∀ c ∈ cs, Cls X.K (ca c) ∧ NoAttr X.K (ca c) f
section
variable {T : Tb} {N : List Str} {K : PySem.W.Frag} {ca : Nat → Addr} {R : Nat → List D → Sto → Mo D} {G : List D} {k : Nat} {X : Cx} {sc : Scope} {B : Bool} {E : L2.St → XK}
variable {φ φ' : List Addr} {H H' : Hp} {S S' : Sto} {ρ : Rho} {σ : L2.St}
theorem CK.rm (c : CK T N K ca R G k X sc B E) : Room (2 * k) X.A := c.room.mono (Nat.le_succ _)
theorem CK.hu (c : CK T N K ca R G k X sc B E) : X.A.units + 100 < cLine := by have := c.room.un; omega
theorem slot_at {x : Str} {i : Nat} (h : slot N x = some i) : N[i]? = some x ∧ i = N.idxOf x := by
  unfold slot at h
  split at h
  · rename_i hc
    cases h
    have hm : x ∈ N := by simpa using hc
    exact ⟨by rw [List.getElem?_eq_getElem (List.idxOf_lt_length_iff.mpr hm), List.getElem_idxOf], rfl⟩
  · cases h
theorem vis_ok (c : CK T N K ca R G k X sc B E) {x : Str} (h : vis sc x = true) : Vis X.env.scope x ∧ (x == ("__debug__" : Str)) = false ∧ (x == ("__classdict__" : Str)) = false := by
  simp only [vis, Bool.and_eq_true, Bool.or_eq_true, decide_eq_true_eq, Bool.not_eq_true'] at h
  rw [c.hs]
  refine ⟨?_, h.1.2, h.2⟩
  rcases h.1.1 with (h | h) | h
  · exact .inl h
  · exact .inr (.inl h)
  · exact .inr (.inr h)
theorem gli_ok (c : CK T N K ca R G k X sc B E) {x : Str} (h : gli sc x = true) : Gl X x ∧ (x == ("__debug__" : Str)) = false ∧ x ≠ ("__name__" : Str) := by
  simp only [gli, Bool.and_eq_true, decide_eq_true_eq, Bool.not_eq_true'] at h
  refine ⟨?_, h.1.2, by simpa using h.2⟩
  show X.env.scope.names.lookup x = _
  rw [c.hs]
  exact h.1.1
/-- a value's truth -/
theorem pt_plain {e : Expr} {m : Ex} (hK : X.K = K) (h : PE X e (tE K ca R G E m)) (hm : ∀ ρ S, ev R G m true ρ S = bnd (ev R G m false ρ S) fun d S => lf0 ((tru S d).map .bl) S)
    (he : ∀ whole, isTrue e X.env whole = (do let v ← whole; standAt e.pos; holding [v] (truthy v))) : PT X e (tT K ca R G E m) := by
  refine (pt_truth h he).imp fun σ H Q ⟨ρ, S, φ, r, re, rs, e1, go⟩ => ?_
  rw [hm] at e1
  refine tE_bnd re rs e1 go fun d S1 φ1 H1 v le rs1 rv1 h1 => ?_
  obtain ⟨a, h2, rfl⟩ := lf0_some h1
  simp only [Option.map_eq_some_iff] at h2
  obtain ⟨b, h2, rfl⟩ := h2
  obtain ⟨b', eb, q⟩ := (go.mono le).here rs1 (.bl b)
  cases eb
  subst hK
  exact ⟨b, rs1.tru rv1 h2, q⟩
theorem e_var (c : CK T N K ca R G k X sc B E) {x : Str} {p : Pos} {i : Nat} (h1 : vis sc x = true) (h2 : slot N x = some i) : PE X (.Name x p) (tE K ca R G E (.var i)) := by
  obtain ⟨v1, v2, v3⟩ := vis_ok c h1
  refine (pe_var (i := i) (by rw [c.hN]; exact (slot_at h2).1) v1 v2 v3).imp fun σ H Q ⟨ρ, S, φ, r, re, rs, e1, go⟩ => ?_
  simp only [ev, fin, Bool.false_eq_true, if_false] at e1
  split at e1
  · rename_i d q
    cases e1
    obtain ⟨v, hv, rv⟩ := re.2 i d q
    exact ⟨v, hv, go.here rs rv⟩
  · cases e1
theorem e_cst {e : Expr} {d : D} {v : V} (h : PE X e (tC v)) (hv : ∀ φ H, RV K φ H d v) : PE X e (tE K ca R G E (.cst d)) := h.imp fun σ H Q ⟨ρ, S, φ, r, re, rs, e1, go⟩ => by
  cases e1
  exact go.here rs (hv _ _)
theorem e_glb (c : CK T N K ca R G k X sc B E) {x : Str} {p : Pos} (h1 : gli sc x = true) (h2 : T.gl.contains x = true) : PE X (.Name x p) (tE K ca R G E (.glb (T.gl.idxOf x))) := by
  obtain ⟨g1, g2, g3⟩ := gli_ok c h1
  cases hd : G[T.gl.idxOf x]? with
  | none => exact ⟨fun pins s σ H Q I ⟨ρ, S, φ, r, re, rs, e1, go⟩ => by simp only [ev, fin, hd, Bool.false_eq_true, if_false] at e1; cases e1⟩
  | some d =>
    obtain ⟨u, v, m1, m2, m3⟩ := c.gls x h2 d hd
    refine (pe_glob g1 m1 m2 g2).imp fun σ H Q ⟨ρ, S, φ, r, re, rs, e1, go⟩ => ?_
    simp only [ev, fin, hd, Bool.false_eq_true, if_false] at e1
    cases e1
    exact go.here rs (m3 _ _)
theorem b2_op {op : Operator} {o : B2} (h : b2Of op = some o) : op = opOf o := by
  cases op <;> cases h <;> rfl
theorem cm_op {op : CmpOp} {o : Cm} (h : cmOf op = some o) : op = cmOp o := by
  cases op <;> cases h <;> rfl
theorem e_bin (hK : X.K = K) {a b : Expr} {x y : Ex} {op : Operator} {o : B2} {p : Pos} (h : b2Of op = some o) (ha : PE X a (tE K ca R G E x)) (hb : PE X b (tE K ca R G E y)) : PE X (.BinOp a op b p) (tE K ca R G E (.bin o x y)) := by
  rw [b2_op h]
  refine (pe_op (op2_ok (ca := ca) (E := E0) hK o) ha hb).imp fun σ H Q ⟨ρ, S, φ, r, re, rs, e1, go⟩ => ?_
  refine tE_bnd re rs e1 go fun d1 S1 φ1 H1 v1 le1 rs1 rv1 e2 => tE_bnd (re.mono le1) rs1 e2 (go.mono le1) fun d2 S2 φ2 H2 v2 le2 rs2 rv2 e3 => ?_
  obtain ⟨d, S', e4, rfl⟩ := lft_some e3
  exact ⟨φ2, S2, d1, d2, d, S', rs2, rv1.mono le2, rv2, e4, go.mono (le1.trans le2)⟩
theorem e_neg {a : Expr} {x : Ex} {p : Pos} (ha : PE X a (tE K ca R G E x)) : PE X (.UnaryOp .USub a p) (tE K ca R G E (.neg x)) := by
  refine (pe_un un_neg ha).imp fun σ H Q ⟨ρ, S, φ, r, re, rs, e1, go⟩ => ?_
  refine tE_bnd re rs e1 go fun d1 S1 φ1 H1 v1 le1 rs1 rv1 e2 => ?_
  split at e2
  · cases e2
    cases rv1
    exact ⟨_, rfl, (go.mono le1).here rs1 (.int _)⟩
  · cases e2
theorem e_nt (hK : X.K = K) {a : Expr} {x : Ex} {p : Pos} (ha : PE X a (tE K ca R G E x)) : PE X (.UnaryOp .Not a p) (tE K ca R G E (.nt x)) := by
  refine (pe_notT ha).imp fun σ H Q ⟨ρ, S, φ, r, re, rs, e1, go⟩ => ?_
  refine tE_bnd re rs e1 go fun d1 S1 φ1 H1 v1 le1 rs1 rv1 e2 => ?_
  obtain ⟨d, e3, rfl⟩ := lf0_some e2
  simp only [Option.map_eq_some_iff] at e3
  obtain ⟨b, e3, rfl⟩ := e3
  subst hK
  exact ⟨b, rs1.tru rv1 e3, (go.mono le1).here rs1 (.bl _)⟩
theorem t_nt {a : Expr} {x : Ex} {p : Pos} (ha : PT X a (tT K ca R G E x)) : PT X (.UnaryOp .Not a p) (tT K ca R G E (.nt x)) := by
  refine (pt_not ha).imp fun σ H Q ⟨ρ, S, φ, r, re, rs, e1, go⟩ => ?_
  refine tT_bnd re rs e1 go fun d1 S1 φ1 H1 v1 le1 rs1 rv1 e2 => ?_
  split at e2
  · cases e2
    cases rv1
    obtain ⟨b', eb, q⟩ := (go.mono le1).here rs1 (.bl _)
    cases eb
    exact ⟨_, rfl, q⟩
  · cases e2
end
end Mx
set_option Elab.async false
set_option linter.all false
set_option maxRecDepth 100000
set_option maxHeartbeats 6500000
namespace Mx
open L2 PySem PySem.Spec PyProof.Rows
section
variable {T : Tb} {N : List Str} {K : PySem.W.Frag} {ca : Nat → Addr} {R : Nat → List D → Sto → Mo D} {G : List D} {k : Nat} {X : Cx} {sc : Scope} {B : Bool} {E : L2.St → XK}
variable {φ φ' : List Addr} {H H' : Hp} {S S' : Sto} {ρ : Rho} {σ : L2.St}
/-! ### comparisons -/
theorem e_cmp (hK : X.K = K) (hu : X.A.units + 100 < cLine) {a b : Expr} {x y : Ex} {op : CmpOp} {o : Cm} {p : Pos} (h : cmOf op = some o) (hm : behindInMarks op b = false) (ha : PE X a (tE K ca R G E x)) (hb : PE X b (tE K ca R G E y)) :
    PE X (.Compare a [op] [b] p) (tE K ca R G E (.cmp o x y)) ∧ PT X (.Compare a [op] [b] p) (tT K ca R G E (.cmp o x y)) := by
  rw [cm_op h] at hm ⊢
  constructor
  · refine (pe_cmpR (cm2_ok (ca := ca) hK hu o) ha hb hm).imp fun σ H Q ⟨ρ, S, φ, r, re, rs, e1, go⟩ => ?_
    refine tE_bnd re rs e1 go fun d1 S1 φ1 H1 v1 le1 rs1 rv1 e2 => tE_bnd (re.mono le1) rs1 e2 (go.mono le1) fun d2 S2 φ2 H2 v2 le2 rs2 rv2 e3 => ?_
    obtain ⟨d, e4, rfl⟩ := lf0_some e3
    simp only [Option.map_eq_some_iff] at e4
    obtain ⟨c, e4, rfl⟩ := e4
    exact ⟨φ2, S2, d1, d2, c, rs2, rv1.mono le2, rv2, e4, (go.mono (le1.trans le2)).here rs2 (.bl c)⟩
  · refine (pt_cmpR (cm2_ok (ca := ca) hK hu o) ha hb hm).imp fun σ H Q ⟨ρ, S, φ, r, re, rs, e1, go⟩ => ?_
    refine tE_bnd re rs e1 go fun d1 S1 φ1 H1 v1 le1 rs1 rv1 e2 => tE_bnd (re.mono le1) rs1 e2 (go.mono le1) fun d2 S2 φ2 H2 v2 le2 rs2 rv2 e3 => ?_
    obtain ⟨d, e4, rfl⟩ := lf0_some e3
    simp only [Option.map_eq_some_iff] at e4
    obtain ⟨c, e4, rfl⟩ := e4
    exact ⟨φ2, S2, d1, d2, c, rs2, rv1.mono le2, rv2, e4, (go.mono (le1.trans le2)).here rs2 (.bl c)⟩
theorem chn_read (hu : X.A.units + 100 < cLine) {x y z : Ex} {o o' : Cm} {Q : VK} {r : Rs D} (re : RE K φ H ρ σ) (rs : RS K ca φ H S) (e1 : ev R G (.chn o o' x y z) false ρ S = some r) (go : Go K ca (E σ) φ H r Q) :
    tChain (rC K ca o) (rC K ca o') (tE K ca R G E x) (tE K ca R G E y) (tE K ca R G E z) σ H Q := by
  refine tE_bnd re rs e1 go fun d1 S1 φ1 H1 v1 le1 rs1 rv1 e2 => tE_bnd (re.mono le1) rs1 e2 (go.mono le1) fun d2 S2 φ2 H2 v2 le2 rs2 rv2 e3 => ?_
  have le12 := le1.trans le2
  split at e3
  · rename_i q
    refine ⟨φ2, S2, d1, d2, true, rs2, rv1.mono le2, rv2, q, true, rfl, ?_⟩
    rw [if_pos rfl]
    refine tE_bnd (re.mono le12) rs2 e3 (go.mono le12) fun d3 S3 φ3 H3 v3 le3 rs3 rv3 e4 => ?_
    obtain ⟨d, e5, rfl⟩ := lf0_some e4
    simp only [Option.map_eq_some_iff] at e5
    obtain ⟨c, e5, rfl⟩ := e5
    exact ⟨φ3, S3, d2, d3, c, rs3, rv2.mono le3, rv3, e5, (go.mono (le12.trans le3)).here rs3 (.bl c)⟩
  · rename_i q
    refine ⟨φ2, S2, d1, d2, false, rs2, rv1.mono le2, rv2, q, false, rfl, ?_⟩
    (rw [if_neg Bool.false_ne_true])
    cases e3
    exact (go.mono le12).here rs2 (.bl false)
  · cases e3
theorem e_chn (hK : X.K = K) (hu : X.A.units + 100 < cLine) {a b c : Expr} {x y z : Ex} {op op' : CmpOp} {o o' : Cm} {p : Pos} (h : cmOf op = some o) (h' : cmOf op' = some o') (hm : lastMarks [op, op'] [b, c] = false)
    (ha : PE X a (tE K ca R G E x)) (hb : PE X b (tE K ca R G E y)) (hc : PE X c (tE K ca R G E z)) :
    PE X (.Compare a [op, op'] [b, c] p) (tE K ca R G E (.chn o o' x y z)) ∧ PT X (.Compare a [op, op'] [b, c] p) (tT K ca R G E (.chn o o' x y z)) := by
  rw [cm_op h, cm_op h'] at hm ⊢
  constructor
  · exact (pe_chain (cm2_ok (ca := ca) hK hu o) (cm2_ok (ca := ca) hK hu o') ha hb hc hm).imp fun σ H Q ⟨ρ, S, φ, r, re, rs, e1, go⟩ => chn_read hu re rs e1 go
  · refine (pt_chain (cm2_ok (ca := ca) hK hu o) (cm2_ok (ca := ca) hK hu o') ha hb hc hm).imp fun σ H Q ⟨ρ, S, φ, r, re, rs, e1, go⟩ => ?_
    exact chn_read (R := R) (G := G) (E := E) (x := x) (y := y) (z := z) hu re rs e1 go
/-! ### and, or -/
theorem w_an {a b : Expr} {rest : List Expr} {x y : Ex} {p : Pos} (ha : PT X a (tT K ca R G E x)) (hb : PW X (.BoolOp .And (b :: rest) p) (tT K ca R G E y)) : PW X (.BoolOp .And (a :: b :: rest) p) (tT K ca R G E (.an x y)) := by
  refine (pw_and ha hb).imp fun σ H Q ⟨ρ, S, φ, r, re, rs, e1, go⟩ => ?_
  refine tT_bnd re rs e1 go fun d1 S1 φ1 H1 v1 le1 rs1 rv1 e2 => ?_
  split at e2
  · cases rv1
    refine ⟨true, rfl, ?_⟩
    rw [if_pos rfl]
    exact ⟨ρ, S1, φ1, r, re.mono le1, rs1, e2, go.mono le1⟩
  · cases rv1
    cases e2
    refine ⟨false, rfl, ?_⟩
    (rw [if_neg Bool.false_ne_true])
    obtain ⟨b', eb, q⟩ := (go.mono le1).here rs1 (.bl false)
    cases eb
    exact q
  · cases e2
theorem w_or {a b : Expr} {rest : List Expr} {x y : Ex} {p : Pos} (ha : PT X a (tT K ca R G E x)) (hb : PW X (.BoolOp .Or (b :: rest) p) (tT K ca R G E y)) : PW X (.BoolOp .Or (a :: b :: rest) p) (tT K ca R G E (.or x y)) := by
  refine (pw_or ha hb).imp fun σ H Q ⟨ρ, S, φ, r, re, rs, e1, go⟩ => ?_
  refine tT_bnd re rs e1 go fun d1 S1 φ1 H1 v1 le1 rs1 rv1 e2 => ?_
  split at e2
  · cases rv1
    cases e2
    refine ⟨true, rfl, ?_⟩
    rw [if_pos rfl]
    obtain ⟨b', eb, q⟩ := (go.mono le1).here rs1 (.bl true)
    cases eb
    exact q
  · cases rv1
    refine ⟨false, rfl, ?_⟩
    (rw [if_neg Bool.false_ne_true])
    exact ⟨ρ, S1, φ1, r, re.mono le1, rs1, e2, go.mono le1⟩
  · cases e2
theorem e_an {a b : Expr} {rest : List Expr} {x y : Ex} {p : Pos} (ha : PE X a (tE K ca R G E x)) (hb : PE X (.BoolOp .And (b :: rest) p) (tE K ca R G E y)) : PE X (.BoolOp .And (a :: b :: rest) p) (tE K ca R G E (.an x y)) := by
  refine (pe_and ha hb).imp fun σ H Q ⟨ρ, S, φ, r, re, rs, e1, go⟩ => ?_
  refine tE_bnd re rs e1 go fun d1 S1 φ1 H1 v1 le1 rs1 rv1 e2 => ?_
  split at e2
  · cases rv1
    refine ⟨true, rfl, ?_⟩
    rw [if_pos rfl]
    exact ⟨ρ, S1, φ1, r, re.mono le1, rs1, e2, go.mono le1⟩
  · cases rv1
    cases e2
    refine ⟨false, rfl, ?_⟩
    (rw [if_neg Bool.false_ne_true])
    exact (go.mono le1).here rs1 (.bl false)
  · cases e2
theorem e_or {a b : Expr} {rest : List Expr} {x y : Ex} {p : Pos} (ha : PE X a (tE K ca R G E x)) (hb : PE X (.BoolOp .Or (b :: rest) p) (tE K ca R G E y)) : PE X (.BoolOp .Or (a :: b :: rest) p) (tE K ca R G E (.or x y)) := by
  refine (pe_or ha hb).imp fun σ H Q ⟨ρ, S, φ, r, re, rs, e1, go⟩ => ?_
  refine tE_bnd re rs e1 go fun d1 S1 φ1 H1 v1 le1 rs1 rv1 e2 => ?_
  split at e2
  · cases rv1
    cases e2
    refine ⟨true, rfl, ?_⟩
    rw [if_pos rfl]
    exact (go.mono le1).here rs1 (.bl true)
  · cases rv1
    refine ⟨false, rfl, ?_⟩
    (rw [if_neg Bool.false_ne_true])
    exact ⟨ρ, S1, φ1, r, re.mono le1, rs1, e2, go.mono le1⟩
  · cases e2
theorem e_ite {a b c : Expr} {x y z : Ex} {p : Pos} (hc : PT X c (tT K ca R G E x)) (ha : PE X a (tE K ca R G E y)) (hb : PE X b (tE K ca R G E z)) : PE X (.IfExp c a b p) (tE K ca R G E (.ite x y z)) := by
  refine (pe_ifExp hc ha hb).imp fun σ H Q ⟨ρ, S, φ, r, re, rs, e1, go⟩ => ?_
  refine tT_bnd re rs e1 go fun d1 S1 φ1 H1 v1 le1 rs1 rv1 e2 => ?_
  split at e2
  · cases rv1
    refine ⟨true, rfl, ?_⟩
    rw [if_pos rfl]
    exact ⟨ρ, S1, φ1, r, re.mono le1, rs1, e2, go.mono le1⟩
  · cases rv1
    refine ⟨false, rfl, ?_⟩
    (rw [if_neg Bool.false_ne_true])
    exact ⟨ρ, S1, φ1, r, re.mono le1, rs1, e2, go.mono le1⟩
  · cases e2
theorem t_ite {e : Expr} {x y z : Ex} : PT X e (tT K ca R G E (.ite x y z)) := ⟨fun pins s σ H Q I ⟨ρ, S, φ, r, re, rs, e1, go⟩ => by cases e1⟩
/-! ### argument lists -/
theorem pa_starX {e : Expr} {es : List Expr} {te : TE} {t : TA} {sp : Pos} (hK : X.K = K) (he : PE X e te) (ha : PA X es t) : PA X (.Starred e sp :: es) (fun σ H Q => te σ H fun x H1 => ∃ p xs, x = .ref p ∧ (SqT K H1 p xs ∨ SqL K H1 p xs) ∧ t σ H1 fun ys H2 => Q (xs ++ ys) H2) := by
  subst hK
  exact StX.pa_star he ha
theorem es_of {f : Expr → Option Ex} (hf : ∀ e m, f e = some m → PE X e (tE K ca R G E m)) : ∀ {es : List Expr} {ms : Exs}, cpL f es = some ms → PA X es (tEs K ca R G E ms)
  | [], ms, h => by
    cases h
    refine pa_nil.imp fun σ H Q ⟨ρ, S, φ, r, re, rs, e1, go⟩ => ?_
    cases e1
    exact go φ H [] (Le.refl _ _) rs .nil
  | e :: es, ms, h => by
    simp only [cpL] at h
    split at h
    · rename_i hn
      split at h
      · rename_i m ms' h1 h2
        cases h
        refine (pa_cons (hf e m h1) (es_of hf h2) (star_cons hn _ _)).imp fun σ H Q ⟨ρ, S, φ, r, re, rs, e1, go⟩ => ?_
        simp only [evs] at e1
        cases q1 : ev R G m false ρ S with
        | none => rw [q1] at e1; cases e1
        | some o1 =>
          rw [q1] at e1
          cases o1 with
          | er x S1 => cases e1; exact ⟨ρ, S, φ, _, re, rs, q1, go⟩
          | ok d S1 =>
            refine ⟨ρ, S, φ, _, re, rs, q1, fun φ1 H1 v le1 rs1 rv1 => ?_⟩
            simp only [bnd] at e1
            cases q2 : evs R G ms' ρ S1 with
            | none => rw [q2] at e1; cases e1
            | some o2 =>
              rw [q2] at e1
              cases o2 with
              | er x S2 => cases e1; exact ⟨ρ, S1, φ1, _, re.mono le1, rs1, q2, fun φ2 H2 c dd le2 => go φ2 H2 c dd (le1.trans le2)⟩
              | ok ds S2 =>
                cases e1
                exact ⟨ρ, S1, φ1, _, re.mono le1, rs1, q2, fun φ2 H2 vs le2 rs2 rv2 => go φ2 H2 (v :: vs) (le1.trans le2) rs2 (.cons (rv1.mono le2) rv2)⟩
      · cases h
    · cases h
theorem evs_star_some {m : Ex} {ms : Exs} {r : Rs (List D)} (e : evs R G (.star m ms) ρ S = some r) : (∃ x S1, ev R G m false ρ S = some (.er x S1) ∧ r = .er x S1) ∨ ∃ d S1 l, ev R G m false ρ S = some (.ok d S1) ∧ seqOf S1 d = some l ∧ bnd (evs R G ms ρ S1) (fun xs S2 => some (.ok (l ++ xs) S2)) = some r := by
  simp only [evs] at e
  cases q : ev R G m false ρ S with
  | none => (rw [q] at e; cases e)
  | some o =>
    rw [q] at e
    cases o with
    | er x S1 => cases e; exact .inl ⟨x, S1, rfl, rfl⟩
    | ok d S1 =>
      simp only [bnd] at e
      split at e
      · rename_i l hl
        exact .inr ⟨d, S1, l, rfl, hl, e⟩
      · cases e
theorem es_ofS {f : Expr → Option Ex} (hK : X.K = K) (hf : ∀ e m, f e = some m → PE X e (tE K ca R G E m)) : ∀ {es : List Expr} {ms : Exs}, cpLs f es = some ms → PA X es (tEs K ca R G E ms)
  | [], ms, h => by
    cases h
    refine pa_nil.imp fun σ H Q ⟨ρ, S, φ, r, re, rs, e1, go⟩ => ?_
    cases e1
    exact go φ H [] (Le.refl _ _) rs .nil
  | e :: es, ms, h => by
    unfold cpLs at h
    split at h
    · rename_i h0; cases h0
    · rename_i e' sp es' h0
      cases h0
      split at h
      · rename_i m ms' h1 h2
        cases h
        refine (pa_starX hK (hf e' m h1) (es_ofS hK hf h2)).imp fun σ H Q ⟨ρ, S, φ, r, re, rs, e1, go⟩ => ?_
        rcases evs_star_some e1 with ⟨x, S1, q1, rfl⟩ | ⟨d, S1, l, q1, q2, e2⟩
        · exact ⟨ρ, S, φ, _, re, rs, q1, go⟩
        · refine ⟨ρ, S, φ, _, re, rs, q1, fun φ1 H1 v le1 rs1 rv1 => ?_⟩
          obtain ⟨a, xs, rfl, hs, rl⟩ := rs1.seq rv1 q2
          refine ⟨a, xs, rfl, hs.symm, ?_⟩
          cases q3 : evs R G ms' ρ S1 with
          | none => rw [q3] at e2; cases e2
          | some o2 =>
            rw [q3] at e2
            cases o2 with
            | er x S2 => cases e2; exact ⟨ρ, S1, φ1, _, re.mono le1, rs1, q3, fun φ2 H2 c dd le2 => go φ2 H2 c dd (le1.trans le2)⟩
            | ok ds S2 =>
              cases e2
              exact ⟨ρ, S1, φ1, _, re.mono le1, rs1, q3, fun φ2 H2 vs le2 rs2 rv2 => go φ2 H2 (xs ++ vs) (le1.trans le2) rs2 ((rl.mono le2).append rv2)⟩
      · cases h
    · rename_i e' es' h0 h00
      cases h00
      split at h
      · rename_i hn
        split at h
        · rename_i m ms' h1 h2
          cases h
          refine (pa_cons (hf e m h1) (es_ofS hK hf h2) (star_cons hn _ _)).imp fun σ H Q ⟨ρ, S, φ, r, re, rs, e1, go⟩ => ?_
          simp only [evs] at e1
          cases q1 : ev R G m false ρ S with
          | none => rw [q1] at e1; cases e1
          | some o1 =>
            rw [q1] at e1
            cases o1 with
            | er x S1 => cases e1; exact ⟨ρ, S, φ, _, re, rs, q1, go⟩
            | ok d S1 =>
              refine ⟨ρ, S, φ, _, re, rs, q1, fun φ1 H1 v le1 rs1 rv1 => ?_⟩
              simp only [bnd] at e1
              cases q2 : evs R G ms' ρ S1 with
              | none => rw [q2] at e1; cases e1
              | some o2 =>
                rw [q2] at e1
                cases o2 with
                | er x S2 => cases e1; exact ⟨ρ, S1, φ1, _, re.mono le1, rs1, q2, fun φ2 H2 c dd le2 => go φ2 H2 c dd (le1.trans le2)⟩
                | ok ds S2 =>
                  cases e1
                  exact ⟨ρ, S1, φ1, _, re.mono le1, rs1, q2, fun φ2 H2 vs le2 rs2 rv2 => go φ2 H2 (v :: vs) (le1.trans le2) rs2 (.cons (rv1.mono le2) rv2)⟩
        · cases h
      · cases h
theorem e_tup {es : List Expr} {ms : Exs} {n : Nat} {p : Pos} (h : PA X es (tEs K ca R G E ms)) : PE X (.Tuple es n p) (tE K ca R G E (.tup ms)) := by
  refine (pe_tup h).imp fun σ H Q ⟨ρ, S, φ, r, re, rs, e1, go⟩ => ?_
  refine tEs_bnd re rs e1 go fun ds S1 φ1 H1 vs le1 rs1 rv1 e2 => ?_
  split at e2
  · rename_i hz
    cases e2
    refine ⟨by rw [← rv1.length]; exact lim_le hz, fun q nq => ?_⟩
    exact (go.mono le1) φ1 _ _ (Le.new nq) (rs1.new nq) (.tup (.of upd_same) (rv1.mono (Le.new nq)))
  · cases e2
theorem e_lst {es : List Expr} {ms : Exs} {p : Pos} (h : PA X es (tEs K ca R G E ms)) : PE X (.List es p) (tE K ca R G E (.lst ms)) := by
  refine (pe_lst h).imp fun σ H Q ⟨ρ, S, φ, r, re, rs, e1, go⟩ => ?_
  refine tEs_bnd re rs e1 go fun ds S1 φ1 H1 vs le1 rs1 rv1 e2 => ?_
  split at e2
  · rename_i hz
    cases e2
    refine ⟨by rw [← rv1.length]; exact lim_le hz, fun q nq => ?_⟩
    refine (go.mono le1) (φ1 ++ [q]) _ _ (Le.add nq) (rs1.addL nq rv1) (.ref ?_)
    rw [← rs1.len]
    simp
  · cases e2
/-! ### calls -/
theorem e_cal (c : CK T N K ca R G k X sc B E) {x : Str} {p q : Pos} {a : Expr} {as : List Expr} {ms : Exs} {f : Expr → Option Ex} (hf : ∀ e m, f e = some m → PE X e (tE K ca R G E m)) (h1 : gli sc x = true) (h2 : T.fn.contains x = true) (h3 : cpL f (a :: as) = some ms) :
    PE X (.Call (.Name x p) (a :: as) [] q) (tE K ca R G E (.cal (T.fn.idxOf x) ms)) := by
  obtain ⟨g1, g2, g3⟩ := gli_ok c h1
  obtain ⟨g, fd, ps, m1, m2, m3, m4⟩ := c.fns x h2
  have hn := cpL_star h3
  refine (pe_callG m4 c.gd c.rm g1 m1 m2 m3 c.pas (es_of hf h3) g2 (star_cons (hn a List.mem_cons_self) _ _) (plain_any _ _ fun e he => hn e (List.mem_cons_of_mem _ he))).imp fun σ H Q ⟨ρ, S, φ, r, re, rs, e1, go⟩ => ?_
  refine tEs_bnd re rs e1 go fun ds S1 φ1 H1 vs le1 rs1 rv1 e2 => ?_
  rw [List.append_nil]
  exact ⟨φ1, S1, ds, r, rv1, rs1, e2, go.mono le1⟩
theorem e_cad (c : CK T N K ca R G k X sc B E) {x : Str} {p q : Pos} {a : Expr} {as : List Expr} {ms : Exs} {f : Expr → Option Ex} {n0 : Nat} {es : List D} (hf : ∀ e m, f e = some m → PE X e (tE K ca R G E m)) (h1 : gli sc x = true) (h2 : T.fn.contains x = true) (h4 : T.df.lookup x = some (n0, es)) (h3 : cpL f (a :: as) = some ms) :
    PE X (.Call (.Name x p) (a :: as) [] q) (tE K ca R G E (.cad (T.fn.idxOf x) ms es)) := by
  obtain ⟨g1, g2, g3⟩ := gli_ok c h1
  obtain ⟨g, fd, ps, us, vs, m1, m2, m3, m5, m6, m4⟩ := c.dfs x n0 es h4 h2
  have hn := cpL_star h3
  refine (pe_callGd m4 c.gd c.rm g1 m1 m2 m3 m5 c.pas (es_of hf h3) g2 (star_cons (hn a List.mem_cons_self) _ _) (plain_any _ _ fun e he => hn e (List.mem_cons_of_mem _ he))).imp fun σ H Q ⟨ρ, S, φ, r, re, rs, e1, go⟩ => ?_
  refine tEs_bnd re rs e1 go fun ds S1 φ1 H1 ws le1 rs1 rv1 e2 => ?_
  exact ⟨φ1, S1, ds ++ es, r, rv1.append (m6 _ _), rs1, e2, go.mono le1⟩
theorem e_cal0 (c : CK T N K ca R G k X sc B E) {x : Str} {p q : Pos} (h1 : gli sc x = true) (h2 : T.fn.contains x = true) : PE X (.Call (.Name x p) [] [] q) (tE K ca R G E (.cal (T.fn.idxOf x) .nil)) := by
  obtain ⟨g1, g2, g3⟩ := gli_ok c h1
  obtain ⟨g, fd, ps, m1, m2, m3, m4⟩ := c.fns x h2
  refine (pe_callG0 m4 c.gd c.rm g1 m1 m2 m3 c.pas g2).imp fun σ H Q ⟨ρ, S, φ, r, re, rs, e1, go⟩ => ?_
  exact ⟨φ, S, [], r, .nil, rs, e1, go⟩
/-! ### instances -/
theorem evs_none {σ : L2.St} {H : Hp} {Q : List V → Hp → Prop} (h : tEs K ca R G E .nil σ H Q) : Q [] H := by
  obtain ⟨ρ, S, φ, r, re, rs, e1, go⟩ := h
  cases e1
  exact go φ H [] (Le.refl _ _) rs .nil
theorem cpL_nil {f : Expr → Option Ex} {as : List Expr} {ms : Exs} (h : cpL f as = some ms) (z : as = []) : ms = .nil := by
  subst z
  cases h
  rfl
theorem new_ins {φ : List Addr} {H : Hp} {S : Sto} {x dx : Addr} {c : Nat} (rs : RS K ca φ H S) (n1 : H x = none) (n2 : H dx = none) (ne : dx ≠ x) :
    Le φ H (φ ++ [x]) (upd (upd H dx (.own x)) x (.ins (ca c) dx [])) ∧ RS K ca (φ ++ [x]) (upd (upd H dx (.own x)) x (.ins (ca c) dx [])) (S ++ [.ins c []]) := by
  have n1' : (upd H dx (.own x)) x = none := by rw [upd_ne (Ne.symm ne)]; exact n1
  have l1 : Le φ H φ (upd H dx (.own x)) := Le.new n2
  exact ⟨l1.trans (Le.add n1'), (rs.new n2).add n1' rfl ⟨dx, [], upd_same, rfl, .nil⟩⟩
theorem e_mk (c : CK T N K ca R G k X sc B E) {x : Str} {p q : Pos} {as : List Expr} {ms : Exs} {f : Expr → Option Ex} {cl i : Nat} (hf : ∀ e m, f e = some m → PE X e (tE K ca R G E m)) (h1 : gli sc x = true) (h2 : T.cl.lookup x = some (cl, i)) (h3 : cpL f as = some ms) :
    PE X (.Call (.Name x p) as [] q) (tE K ca R G E (.mk cl i ms)) := by
  obtain ⟨g1, g2, g3⟩ := gli_ok c h1
  obtain ⟨m1, g, fd, ps, m2, m3, m4⟩ := c.cls x cl i h2
  refine (pe_makeG m2 m4 c.gd c.room g1 m1 m3 c.pas (es_of hf h3) g2 (cpL_star h3) (fun z σ H Q h => ?_)).imp fun σ H Q ⟨ρ, S, φ, r, re, rs, e1, go⟩ => ?_
  · have := cpL_nil h3 z
    subst this
    exact evs_none h
  refine tEs_bnd re rs e1 go fun ds S1 φ1 H1 vs le1 rs1 rv1 e2 => ?_
  intro a dx n1 n2 ne
  obtain ⟨le2, rs2⟩ := new_ins (c := cl) rs1 n1 n2 ne
  have hx : (φ1 ++ [a])[S1.length]? = some a := by rw [← rs1.len]; simp
  cases q1 : R i (.ref S1.length :: ds) (S1 ++ [.ins cl []]) with
  | none => rw [q1] at e2; cases e2
  | some o =>
    rw [q1] at e2
    refine ⟨φ1 ++ [a], S1 ++ [.ins cl []], .ref S1.length :: ds, o, .cons (.ref hx) (rv1.mono le2), rs2, q1, ?_⟩
    cases o with
    | er y S2 => cases e2; exact fun φ3 H3 c3 dd le3 rs3 rx => go φ3 H3 c3 dd (le1.trans (le2.trans le3)) rs3 rx
    | ok d S2 =>
      simp only [bnd] at e2
      split at e2
      · cases e2
        intro φ3 H3 v le3 rs3 rv3
        cases rv3
        exact ⟨rfl, go φ3 H3 _ (le1.trans (le2.trans le3)) rs3 (.ref (le3.get hx))⟩
      · cases e2
theorem lay_ok {φ : List Addr} : ∀ (ts : List Addr) (xs ys : List V) (l1 l2 : List D) (H : Hp), ts.length = min xs.length ys.length → ts.Nodup → (∀ t ∈ ts, H t = none) → RVs K φ H l1 xs → RVs K φ H l2 ys → RS K ca φ H S →
    Le φ H φ (ZP.lay H ts xs ys) ∧ RS K ca φ (ZP.lay H ts xs ys) S ∧ RVs K φ (ZP.lay H ts xs ys) (zipD l1 l2) (ts.map V.ref)
  | [], xs, ys, l1, l2, H, hl, _, _, r1, r2, rs => by
    have e : zipD l1 l2 = [] := by
      apply List.eq_nil_of_length_eq_zero
      show (List.zipWith _ l1 l2).length = 0
      rw [List.length_zipWith, r1.length, r2.length, ← hl]
      rfl
    rw [e]
    simp only [ZP.lay]
    exact ⟨Le.refl _ _, rs, .nil⟩
  | t :: ts, [], ys, _, _, H, hl, _, _, _, _, _ => by simp at hl
  | t :: ts, _ :: _, [], _, _, H, hl, _, _, _, _, _ => by simp at hl
  | t :: ts, x :: xs, y :: ys, l1, l2, H, hl, nd, hn, r1, r2, rs => by
    cases r1 with
    | cons a1 b1 => cases r2 with
      | cons a2 b2 =>
        rw [List.nodup_cons] at nd
        have n0 := hn t List.mem_cons_self
        have le : Le φ H φ (upd H t (.tup [x, y])) := Le.new n0
        obtain ⟨q1, q2, q3⟩ := lay_ok ts xs ys _ _ (upd H t (.tup [x, y])) (by simp only [List.length_cons] at hl; omega) nd.2 (fun t' h => by
          rw [upd_ne (fun (e : t' = t) => nd.1 (by rw [← e]; exact h))]
          exact hn t' (List.mem_cons_of_mem _ h)) (b1.mono le) (b2.mono le) (rs.new n0)
        rw [ZP.lay]
        refine ⟨le.trans q1, q2, .cons (.tup (xs := [x, y]) (.of ?_) ?_) q3⟩
        · rw [ZP.lay_ne ts xs ys _ t nd.1, upd_same]
        · exact (RVs.cons a1 (.cons a2 .nil)).mono (le.trans q1)
theorem e_lz (c : CK T N K ca R G k X sc B E) {x y : Str} {p q p2 q2 : Pos} {a b : Expr} {ms : Exs} {f : Expr → Option Ex} (hf : ∀ e m, f e = some m → PE X e (tE K ca R G E m)) (h1 : gli sc x = true) (h2 : T.bis.contains x = true) (hx : x = ("list" : Str)) (h3 : gli sc y = true) (h4 : T.bis.contains y = true) (hy : y = ("zip" : Str)) (h5 : cpL f [a, b] = some ms) :
    PE X (.Call (.Name x p) [.Call (.Name y p2) [a, b] [] q2] [] q) (tE K ca R G E (.lz ms)) := by
  obtain ⟨g1, g2, g3⟩ := gli_ok c h1
  obtain ⟨g4, g5, g6⟩ := gli_ok c h3
  have hn := cpL_star h5
  have z1 := c.bis x h2
  have z2 := c.bis y h4
  subst hx hy
  refine (ZP.pe_lz c.calm g1 z1 g4 z2 (es_of hf h5) (star_cons (hn a List.mem_cons_self) _ _) (plain_any _ _ fun e he => hn e (List.mem_cons_of_mem _ he))).imp fun σ H Q ⟨ρ, S, φ, r, re, rs, e1, go⟩ => ?_
  obtain rfl := c.hK
  refine tEs_bnd re rs e1 go fun ds S1 φ1 H1 ws le1 rs1 rv1 e2 => ?_
  obtain ⟨d, S', e3, rfl⟩ := lft_some e2
  unfold lz1 at e3
  split at e3
  · rename_i d1 d2 S0
    split at e3
    · rename_i l1 l2 s1 s2
      split at e3
      · rename_i hz
        cases e3
        cases rv1 with
        | cons r1 r2 => cases r2 with
          | cons r2 r3 =>
            cases r3
            obtain ⟨a1, xs, rfl, hs1, t1⟩ := rs1.seq r1 s1
            obtain ⟨a2, ys, rfl, hs2, t2⟩ := rs1.seq r2 s2
            refine ⟨a1, a2, xs, ys, rfl, hs1, hs2, fun ts p tl tn tH pH pn => ?_⟩
            obtain ⟨q1, q2, q3⟩ := lay_ok ts xs ys l1 l2 H1 tl tn tH t1 t2 rs1
            have pl : ZP.lay H1 ts xs ys p = none := by rw [ZP.lay_ne ts xs ys H1 p pn]; exact pH
            refine go (φ1 ++ [p]) _ _ (le1.trans (q1.trans (Le.add pl))) (q2.addL pl q3) (.ref ?_)
            rw [← rs1.len]
            simp
      · cases e3
    · cases e3
  · cases e3
theorem kd_in {es : List DictEntry} {kvs : List (Str × D)} (h : KDs K es kvs) (k : Str) : match es.find? (·.key.isStr k), kvs.lookup k with
    | none, none => True
    | some e, some d => ∃ v, L2.RelV v e.val ∧ ∀ φ H, RV K φ H d v
    | _, _ => False := by
  induction h with
  | nil => trivial
  | @cons e p es kvs h t ih =>
    obtain ⟨⟨tk, he⟩, v, rv, hv⟩ := h
    obtain ⟨pk, pd⟩ := p
    have hs : e.key.isStr k = (pk == k) := by rw [he]; rfl
    by_cases hk : pk = k
    · subst hk
      rw [List.find?_cons_of_pos (by rw [hs]; simp), List.lookup_cons_self]
      exact ⟨v, rv, hv⟩
    · rw [List.find?_cons_of_neg (by rw [hs]; simpa using hk), List.lookup_cons, show (k == pk) = false from beq_false_of_ne fun e => hk e.symm]
      exact ih
theorem kd_noref {es : List DictEntry} {kvs : List (Str × D)} (h : KDs K es kvs) : es.any (·.refKey) = false := by
  induction h with
  | nil => rfl
  | @cons e p es kvs h t ih =>
    obtain ⟨⟨tk, he⟩, _⟩ := h
    rw [List.any_cons, ih, Bool.or_false]
    show DictEntry.refKey e = false
    unfold DictEntry.refKey
    rw [he]
theorem e_dg (c : CK T N K ca R G k X sc B E) {x : Str} {p ap q : Pos} {a : Expr} {as : List Expr} {ms : Exs} {kvs : List (Str × D)} {f : Expr → Option Ex} (hf : ∀ e m, f e = some m → PE X e (tE K ca R G E m)) (h1 : gli sc x = true) (h2 : T.gd.lookup x = some kvs) (hl : (ap.endLine == q.line) = true) (hn : (a :: as).length < 20) (h3 : cpL f (a :: as) = some ms) :
    PE X (.Call (.Attribute (.Name x p) "get" ap) (a :: as) [] q) (tE K ca R G E (.dg kvs ms)) := by
  obtain ⟨g1, g2, g3⟩ := gli_ok c h1
  obtain ⟨d, es, n, m1, m2, m3⟩ := c.gds x kvs h2
  have st := cpL_star h3
  have few : ((backTo q (starEach (a :: as) X.env)).all (fun x => !x.1) && (backToKw q (keywordEach [] X.env)).all (fun x => x.1.isSome)
      && decide ((a :: as).length + ([] : List Keyword).length + (if ([] : List Keyword).isEmpty then 0 else 1) < 30)) = true := by
    rw [plain_all q X.env st]
    have : (backToKw q (keywordEach [] X.env)).all (fun x => x.1.isSome) = true := rfl
    rw [this]
    simp only [Bool.true_and, decide_eq_true_eq, List.length_nil, List.isEmpty_nil, if_true]
    omega
  refine (ZP.pe_kget m2 g1 m1 g2 (es_of hf h3) few hl (star_cons (st a List.mem_cons_self) _ _) (plain_any _ _ fun e he => st e (List.mem_cons_of_mem _ he))).imp fun σ H Q ⟨ρ, S, φ, r, re, rs, e1, go⟩ => ?_
  have nsIn_at : ∀ z : Str, PySem.W.nsIn X.K d z = some ((es.toList.find? (·.key.isStr z)).map (·.val)) := fun z => by
    unfold PySem.W.nsIn
    rw [m2.at_]
    dsimp only
    cases es.toList.find? (·.key.isStr z) with
    | none =>
      simp only [Option.map_none]
      rw [if_neg (by rw [kd_noref m3]; decide)]
    | some e => rfl
  refine tEs_bnd re rs e1 go fun ds S1 φ1 H1 ws le1 rs1 rv1 e2 => ?_
  obtain ⟨d0, e3, rfl⟩ := lf0_some e2
  unfold dgt at e3
  split at e3
  · rename_i z
    cases e3
    cases rv1 with
    | cons r1 r2 =>
      cases r2
      cases r1
      have kk := kd_in m3 z
      refine .inl ?_
      cases q1 : es.toList.find? (·.key.isStr z) with
      | none =>
        rw [q1] at kk
        cases q2 : kvs.lookup z with
        | some _ => rw [q2] at kk; exact kk.elim
        | none =>
          rw [q2] at go
          exact ⟨z, none, .non, rfl, (nsIn_at z).trans (by rw [q1]; rfl), rfl, (go.mono le1).here rs1 .non⟩
      | some e =>
        rw [q1] at kk
        cases q2 : kvs.lookup z with
        | none => rw [q2] at kk; exact kk.elim
        | some dd =>
          rw [q2] at kk go
          obtain ⟨v, rv, hv⟩ := kk
          exact ⟨z, some e.val, v, rfl, (nsIn_at z).trans (by rw [q1]; rfl), rv, (go.mono le1).here rs1 (hv _ _)⟩
  · rename_i z y
    cases e3
    cases rv1 with
    | cons r1 r2 => cases r2 with
      | @cons _ vy _ _ r2 r3 =>
        cases r3
        cases r1
        have kk := kd_in m3 z
        refine .inr ?_
        cases q1 : es.toList.find? (·.key.isStr z) with
        | none =>
          rw [q1] at kk
          cases q2 : kvs.lookup z with
          | some _ => rw [q2] at kk; exact kk.elim
          | none =>
            rw [q2] at go
            exact ⟨z, vy, none, rfl, (nsIn_at z).trans (by rw [q1]; rfl), vy, fun u h => (by cases h), fun _ => rfl, (go.mono le1).here rs1 r2⟩
        | some e =>
          rw [q1] at kk
          cases q2 : kvs.lookup z with
          | none => rw [q2] at kk; exact kk.elim
          | some dd =>
            rw [q2] at kk go
            obtain ⟨v, rv, hv⟩ := kk
            exact ⟨z, vy, some e.val, rfl, (nsIn_at z).trans (by rw [q1]; rfl), v, fun u h => by cases h; exact rv, fun h => (by cases h), (go.mono le1).here rs1 (hv _ _)⟩
  · cases e3
theorem bi_read {as : Exs} {b : Bi} {Q : VK} {r : Rs D} (re : RE K φ H ρ σ) (rs : RS K ca φ H S) (e1 : ev R G (.bi b as) false ρ S = some r) (go : Go K ca (E σ) φ H r Q) : tCB (rBi K ca E0 b) (tEs K ca R G E as) σ H Q := by
  refine tEs_bnd re rs e1 go fun ds S1 φ1 H1 vs le1 rs1 rv1 e2 => ?_
  obtain ⟨d, S', e3, rfl⟩ := lft_some e2
  exact ⟨φ1, S1, ds, d, S', rs1, rv1, e3, go.mono le1⟩
theorem e_bi (c : CK T N K ca R G k X sc B E) {x : Str} {p q : Pos} {a : Expr} {as : List Expr} {ms : Exs} {b : Bi} {f : Expr → Option Ex} (hf : ∀ e m, f e = some m → PE X e (tE K ca R G E m)) (h1 : gli sc x = true) (h2 : T.bis.contains x = true) (h3 : cpL f (a :: as) = some ms) (hb : biOf x = some b) :
    PE X (.Call (.Name x p) (a :: as) [] q) (tE K ca R G E (.bi b ms)) := by
  obtain ⟨g1, g2, g3⟩ := gli_ok c h1
  have hn := cpL_star h3
  have s1 := star_cons (hn a List.mem_cons_self) as X.env
  have s2 := plain_any q X.env fun e he => hn e (List.mem_cons_of_mem _ he)
  have pa := es_of hf h3
  have ok := bi_ok (X := X) (E := E0) (ca := ca) c.hK c.calm c.gd c.hu b
  have mg := c.bis x h2
  have fin : ∀ {t : TE}, PE X (.Call (.Name x p) (a :: as) [] q) t → t = tCB (rBi K ca E0 b) (tEs K ca R G E ms) → PE X (.Call (.Name x p) (a :: as) [] q) (tE K ca R G E (.bi b ms)) := fun h e => by
    subst e
    exact h.imp fun σ H Q ⟨ρ, S, φ, r, re, rs, e1, go⟩ => bi_read re rs e1 go
  unfold biOf at hb
  split at hb
  · rename_i e; subst e; cases hb; exact fin (pe_callB ok g1 mg (by decide +kernel) pa (by decide) (by decide) s1 s2) rfl
  split at hb
  · rename_i e; subst e; cases hb; exact fin (pe_callB ok g1 mg (by decide +kernel) pa (by decide) (by decide) s1 s2) rfl
  split at hb
  · rename_i e; subst e; cases hb; exact fin (pe_callTy ok g1 mg (by decide +kernel) pa (by decide) (by decide) s1 s2) rfl
  split at hb
  · rename_i e; subst e; cases hb; exact fin (pe_callB ok g1 mg (by decide +kernel) pa (by decide) (by decide) s1 s2) rfl
  split at hb
  · rename_i e; subst e; cases hb; exact fin (pe_callB ok g1 mg (by decide +kernel) pa (by decide) (by decide) s1 s2) rfl
  split at hb
  · rename_i e; subst e; cases hb; exact fin (pe_callB ok g1 mg (by decide +kernel) pa (by decide) (by decide) s1 s2) rfl
  split at hb
  · rename_i e; subst e; cases hb; exact fin (pe_callTy ok g1 mg (by decide +kernel) pa (by decide) (by decide) s1 s2) rfl
  split at hb
  · rename_i e; subst e; cases hb; exact fin (pe_callTy ok g1 mg (by decide +kernel) pa (by decide) (by decide) s1 s2) rfl
  split at hb
  · rename_i e; subst e; cases hb; exact fin (pe_callB ok g1 mg (by decide +kernel) pa (by decide) (by decide) s1 s2) rfl
  split at hb
  · rename_i e; subst e; cases hb; exact fin (pe_callTy ok g1 mg (by decide +kernel) pa (by decide) (by decide) s1 s2) rfl
  split at hb
  · rename_i e; subst e; cases hb; exact fin (pe_callB ok g1 mg (by decide +kernel) pa (by decide) (by decide) s1 s2) rfl
  split at hb
  · rename_i e; subst e; cases hb; exact fin (pe_callB ok g1 mg (by decide +kernel) pa (by decide) (by decide) s1 s2) rfl
  · cases hb
theorem e_mb (c : CK T N K ca R G k X sc B E) {x : Str} {p q : Pos} {a : Expr} {as : List Expr} {ms : Exs} {b : Bi} {f : Expr → Option Ex} (hf : ∀ e m, f e = some m → PE X e (tE K ca R G E m)) (h1 : gli sc x = true) (h2 : T.mth.contains x = true) (h3 : cpL f (a :: as) = some ms) (hb : mbOf x = some b) :
    PE X (.Call (.Name x p) (a :: as) [] q) (tE K ca R G E (.bi b ms)) := by
  obtain ⟨g1, g2, g3⟩ := gli_ok c h1
  have hn := cpL_star h3
  have s1 := star_cons (hn a List.mem_cons_self) as X.env
  have s2 := plain_any q X.env fun e he => hn e (List.mem_cons_of_mem _ he)
  have pa := es_of hf h3
  have ok := bi_ok (X := X) (E := E0) (ca := ca) c.hK c.calm c.gd c.hu b
  have mg := c.mth x h2 b hb
  have fin : ∀ {t : TE}, PE X (.Call (.Name x p) (a :: as) [] q) t → t = tCB (rBi K ca E0 b) (tEs K ca R G E ms) → PE X (.Call (.Name x p) (a :: as) [] q) (tE K ca R G E (.bi b ms)) := fun h e => by
    subst e
    exact h.imp fun σ H Q ⟨ρ, S, φ, r, re, rs, e1, go⟩ => bi_read re rs e1 go
  unfold mbOf at hb
  split at hb
  · cases hb; exact fin (pe_callBfun ok g1 mg pa g2 s1 s2) rfl
  split at hb
  · cases hb; exact fin (pe_callBfun ok g1 mg pa g2 s1 s2) rfl
  · cases hb
theorem e_isi (c : CK T N K ca R G k X sc B E) {x t : Str} {p q tp : Pos} {a : Expr} {m : Ex} {ty : Ty} (ha : PE X a (tE K ca R G E m)) (hn : noStar a = true) (hx : x = ("isinstance" : Str)) (h1 : gli sc x = true) (h2 : T.bis.contains x = true) (h3 : gli sc t = true) (h4 : T.bis.contains t = true) (ht : tyOf t = some ty) :
    PE X (.Call (.Name x p) [a, .Name t tp] [] q) (tE K ca R G E (.isi m ty)) := by
  obtain ⟨g1, g2, g3⟩ := gli_ok c h1
  obtain ⟨g4, g5, g6⟩ := gli_ok c h3
  subst hx
  have mt := c.bis t h4
  have pt : PE X (.Name t tp) (tC (.ty (tyN ty))) := by
    unfold tyOf at ht
    split at ht
    · rename_i e; subst e; cases ht; exact pe_bltn g4 mt (by decide +kernel) rfl g6 g5
    split at ht
    · rename_i e; subst e; cases ht; exact pe_bltn g4 mt (by decide +kernel) rfl g6 g5
    split at ht
    · rename_i e; subst e; cases ht; exact pe_bltn g4 mt (by decide +kernel) rfl g6 g5
    split at ht
    · rename_i e; subst e; cases ht; exact pe_bltn g4 mt (by decide +kernel) rfl g6 g5
    split at ht
    · rename_i e; subst e; cases ht; exact pe_bltn g4 mt (by decide +kernel) rfl g6 g5
    · cases ht
  refine (pe_callB (isi_ok (ca := ca) c.hK) g1 (c.bis _ h2) (by decide +kernel) (pa_cons ha (pa_cons pt pa_nil) (star_cons hn _ _)) (by decide) (by decide) (star_cons hn _ _) rfl).imp fun σ H Q ⟨ρ, S, φ, r, re, rs, e1, go⟩ => ?_
  refine tE_bnd re rs e1 go fun d1 S1 φ1 H1 v1 le1 rs1 rv1 e2 => ?_
  obtain ⟨d, e3, rfl⟩ := lf0_some e2
  simp only [Option.map_eq_some_iff] at e3
  obtain ⟨b, e3, rfl⟩ := e3
  exact ⟨φ1, S1, d1, v1, ty, b, rfl, rs1, rv1, e3, (go.mono le1).here rs1 (.bl b)⟩
end
end Mx
set_option Elab.async false
set_option linter.all false
set_option maxRecDepth 100000
set_option maxHeartbeats 6500000
namespace Mx
open L2 PySem PySem.Spec PyProof.Rows
section
variable {T : Tb} {N : List Str} {K : PySem.W.Frag} {ca : Nat → Addr} {R : Nat → List D → Sto → Mo D} {G : List D} {k : Nat} {X : Cx} {sc : Scope} {B : Bool} {E : L2.St → XK}
variable {φ φ' : List Addr} {H H' : Hp} {S S' : Sto} {ρ : Rho} {σ : L2.St}
/-! ### methods of lists -/
theorem base_of {o : Expr} (h : noSuper o = true) (m : Str) (env : PySem.Env) (w : Sem Value) : attributeBase o m env w = w := by
  unfold attributeBase
  split
  · cases h
  · rfl
theorem RS.isL (h : RS K ca φ H S) {d : D} {v : V} (r : RV K φ H d v) (e : Mx.isL S d = true) : tyV K "list" v H := by
  unfold Mx.isL at e
  split at e
  · cases q : lstOf S _ with
    | none => (rw [q] at e; cases e)
    | some l =>
      cases r with
      | ref ha =>
        obtain ⟨xs, h1, _⟩ := h.lst q ha
        exact .inl ⟨rfl, xs, h1⟩
  · cases e
theorem mth_read {o : Ex} {as : Exs} {m : Mt} {Q : VK} {r : Rs D} (hK : X.K = K) (re : RE K φ H ρ σ) (rs : RS K ca φ H S) (e1 : ev R G (.mth m o as) false ρ S = some r) (go : Go K ca (E σ) φ H r Q) :
    tBM X.K "list" (rMt K ca E0 m) (tE K ca R G E o) (tEs K ca R G E as) σ H Q := by
  subst hK
  refine tE_bnd re rs e1 go fun d1 S1 φ1 H1 v1 le1 rs1 rv1 e2 => ?_
  split at e2
  · rename_i hl
    refine ⟨rs1.isL rv1 hl, tEs_bnd (re.mono le1) rs1 e2 (go.mono le1) fun ds S2 φ2 H2 vs le2 rs2 rv2 e3 => ?_⟩
    obtain ⟨d, S', e4, rfl⟩ := lft_some e3
    exact ⟨φ2, S2, d1, ds, d, S', rs2, rv1.mono le2, rv2, e4, go.mono (le1.trans le2)⟩
  · cases e2
theorem e_mth (hK : X.K = K) {o : Expr} {as : List Expr} {m : Str} {ap p : Pos} {x : Ex} {xs : Exs} {kd : Mt} {f : Expr → Option Ex} (hf : ∀ e m, f e = some m → PE X e (tE K ca R G E m)) (hm : mtOf m = some kd) (ho : PE X o (tE K ca R G E x)) (h3 : cpL f as = some xs)
    (hs : noSuper o = true) (hl : (ap.endLine == p.line) = true) (hn : as.length < 20) : PE X (.Call (.Attribute o m ap) as [] p) (tE K ca R G E (.mth kd x xs)) := by
  have ok := mt_ok (X := X) (E := E0) (ca := ca) hK kd
  have st := cpL_star h3
  cases as with
  | nil =>
    cases h3
    have fin : ∀ {t : TE}, PE X (.Call (.Attribute o m ap) [] [] p) t → t = tBM0 X.K "list" (rMt K ca E0 kd) (tE K ca R G E x) → PE X (.Call (.Attribute o m ap) [] [] p) (tE K ca R G E (.mth kd x .nil)) := fun h e => by
      subst e
      refine h.imp fun σ H Q ⟨ρ, S, φ, r, re, rs, e1, go⟩ => ?_
      subst hK
      refine tE_bnd re rs e1 go fun d1 S1 φ1 H1 v1 le1 rs1 rv1 e2 => ?_
      split at e2
      · rename_i hl
        obtain ⟨d, S', e4, rfl⟩ := lft_some e2
        exact ⟨rs1.isL rv1 hl, φ1, S1, d1, [], d, S', rs1, rv1, .nil, e4, go.mono le1⟩
      · cases e2
    unfold mtOf at hm
    split at hm
    · rename_i e; subst e; cases hm; exact fin (pe_bm0 PySem.F.plainAttrs_list PySem.F.slot_list_append PySem.F.type_list_append ok ho (base_of hs _ _ _) hl) rfl
    split at hm
    · rename_i e; subst e; cases hm; exact fin (pe_bm0 PySem.F.plainAttrs_list PySem.F.slot_list_extend PySem.F.type_list_extend ok ho (base_of hs _ _ _) hl) rfl
    split at hm
    · rename_i e; subst e; cases hm; exact fin (pe_bm0 PySem.F.plainAttrs_list PySem.F.slot_list_pop PySem.F.type_list_pop ok ho (base_of hs _ _ _) hl) rfl
    · cases hm
  | cons a as =>
    have pa := es_of hf h3
    have s1 := star_cons (st a List.mem_cons_self) as X.env
    have s2 := plain_any p X.env fun e he => st e (List.mem_cons_of_mem _ he)
    have few : ((backTo p (starEach (a :: as) X.env)).all (fun x => !x.1) && (backToKw p (keywordEach [] X.env)).all (fun x => x.1.isSome)
      && decide ((a :: as).length + ([] : List Keyword).length + (if ([] : List Keyword).isEmpty then 0 else 1) < 30)) = true := by
      rw [plain_all p X.env st]
      have : (backToKw p (keywordEach [] X.env)).all (fun x => x.1.isSome) = true := rfl
      rw [this]
      simp only [Bool.true_and, decide_eq_true_eq, List.length_nil, List.isEmpty_nil, if_true]
      omega
    have fin : ∀ {t : TE}, PE X (.Call (.Attribute o m ap) (a :: as) [] p) t → t = tBM X.K "list" (rMt K ca E0 kd) (tE K ca R G E x) (tEs K ca R G E xs) → PE X (.Call (.Attribute o m ap) (a :: as) [] p) (tE K ca R G E (.mth kd x xs)) := fun h e => by
      subst e
      exact h.imp fun σ H Q ⟨ρ, S, φ, r, re, rs, e1, go⟩ => mth_read hK re rs e1 go
    unfold mtOf at hm
    split at hm
    · rename_i e; subst e; cases hm; exact fin (pe_bm PySem.F.plainAttrs_list PySem.F.slot_list_append PySem.F.type_list_append ok ho pa (base_of hs _ _ _) few hl s1 s2) rfl
    split at hm
    · rename_i e; subst e; cases hm; exact fin (pe_bm PySem.F.plainAttrs_list PySem.F.slot_list_extend PySem.F.type_list_extend ok ho pa (base_of hs _ _ _) few hl s1 s2) rfl
    split at hm
    · rename_i e; subst e; cases hm; exact fin (pe_bm PySem.F.plainAttrs_list PySem.F.slot_list_pop PySem.F.type_list_pop ok ho pa (base_of hs _ _ _) few hl s1 s2) rfl
    · cases hm
/-! ### items, slices -/
theorem plain_ix {b : Expr} (h : noSlice b = true) : PlainIx b := by
  intro o i
  cases b <;> first | rfl | cases h
theorem e_idx (hK : X.K = K) {a b : Expr} {x y : Ex} {p : Pos} (hb' : noSlice b = true) (ha : PE X a (tE K ca R G E x)) (hb : PE X b (tE K ca R G E y)) : PE X (.Subscript a b p) (tE K ca R G E (.idx x y)) := by
  refine (pe_ix (ix_ok (ca := ca) hK) ha hb (plain_ix hb')).imp fun σ H Q ⟨ρ, S, φ, r, re, rs, e1, go⟩ => ?_
  refine tE_bnd re rs e1 go fun d1 S1 φ1 H1 v1 le1 rs1 rv1 e2 => tE_bnd (re.mono le1) rs1 e2 (go.mono le1) fun d2 S2 φ2 H2 v2 le2 rs2 rv2 e3 => ?_
  obtain ⟨d, e4, rfl⟩ := lf0_some e3
  exact ⟨φ2, S2, d1, d2, d, rs2, rv1.mono le2, rv2, e4, fun v rv => (go.mono (le1.trans le2)).here rs2 rv⟩
/-- a part of a slice -/
def tOp1 (K : PySem.W.Frag) (ca : Nat → Addr) (R : Nat → List D → Sto → Mo D) (G : List D) (E : L2.St → XK) (as : Exs) : TO := fun σ H Q => ∃ ρ S φ r, RE K φ H ρ σ ∧ RS K ca φ H S ∧ evs R G as ρ S = some r ∧ match r with
  | .ok ds S' => ∃ o, oInt ds = some o ∧ ∀ φ' H', Le φ H φ' H' → RS K ca φ' H' S' → Q o H'
  | .er x S' => ∀ φ' H' c dd, Le φ H φ' H' → RS K ca φ' H' S' → RX K ca φ' H' x c dd → E σ c dd H'
theorem po_ok {o : Option Expr} {as : Exs} {f : Expr → Option Ex} (hf : ∀ e m, f e = some m → PE X e (tE K ca R G E m)) (h : (match o with
        | none => some .nil
        | some l => (f l).map fun m => Exs.cons m .nil) = some as) : PO X o (tOp1 K ca R G E as) := by
  cases o with
  | none =>
    cases h
    refine ⟨fun pins s σ H Q I ⟨ρ, S, φ, r, re, rs, e1, q⟩ => po_none.run pins s σ H Q I ?_⟩
    cases e1
    obtain ⟨o, e2, q⟩ := q
    cases e2
    exact q φ H (Le.refl _ _) rs
  | some l =>
    (simp only [Option.map_eq_some_iff] at h)
    obtain ⟨m, h1, rfl⟩ := h
    refine ⟨fun pins s σ H Q I ⟨ρ, S, φ, r, re, rs, e1, q⟩ => (po_some (hf l m h1)).run pins s σ H Q I ?_⟩
    simp only [evs] at e1
    cases q1 : ev R G m false ρ S with
    | none => rw [q1] at e1; cases e1
    | some o1 =>
      rw [q1] at e1
      cases o1 with
      | er x S1 => cases e1; exact ⟨ρ, S, φ, _, re, rs, q1, q⟩
      | ok d S1 =>
        cases e1
        obtain ⟨o, e2, q⟩ := q
        refine ⟨ρ, S, φ, _, re, rs, q1, fun φ1 H1 v le1 rs1 rv1 => ?_⟩
        cases rv1 with
        | int i => cases e2; exact ⟨i, rfl, q φ1 H1 le1 rs1⟩
        | _ => cases e2
theorem rev_shape {b : Expr} (h : revSl b = true) : ∃ k p1 p2 p3, b = .Slice none none (some (.UnaryOp .USub (.Constant (.int 1) k p1) p2)) p3 := by
  unfold revSl at h
  split at h
  · exact ⟨_, _, _, _, rfl⟩
  · cases h
theorem e_rvs (hK : X.K = K) {a b : Expr} {x : Ex} {p : Pos} (hb : revSl b = true) (ha : PE X a (tE K ca R G E x)) : PE X (.Subscript a b p) (tE K ca R G E (.rvs x)) := by
  obtain ⟨k, p1, p2, p3, rfl⟩ := rev_shape hb
  subst hK
  refine ((pe_revL ha).or (pe_revT ha)).imp fun σ H Q ⟨ρ, S, φ, r, re, rs, e1, go⟩ => ?_
  simp only [ev, fin, Bool.false_eq_true, if_false] at e1
  cases q : ev R G x false ρ S with
  | none => rw [q] at e1; cases e1
  | some o =>
    rw [q] at e1
    cases o with
    | er y S1 =>
      cases e1
      exact .inl ⟨ρ, S, φ, _, re, rs, q, go⟩
    | ok d S1 =>
      simp only [bnd] at e1
      cases d with
      | tup l =>
        cases e1
        refine .inr ⟨ρ, S, φ, _, re, rs, q, fun φ1 H1 v le1 rs1 rv1 => ?_⟩
        cases rv1 with
        | tup s1 t1 => exact ⟨_, _, rfl, s1, fun p np => go φ1 _ _ (le1.trans (Le.new np)) (rs1.new np) (.tup (.of upd_same) (t1.reverse.mono (Le.new np)))⟩
      | ref i =>
        simp only [rv1] at e1
        cases q2 : lstOf S1 i with
        | none => rw [q2] at e1; cases e1
        | some l =>
          rw [q2] at e1
          cases e1
          refine .inl ⟨ρ, S, φ, _, re, rs, q, fun φ1 H1 v le1 rs1 rv1 => ?_⟩
          cases rv1 with
          | ref hr =>
            obtain ⟨ys, s1, t1⟩ := rs1.lst q2 hr
            refine ⟨_, ys, rfl, s1, fun p np => ?_⟩
            refine go (φ1 ++ [p]) _ _ (le1.trans (Le.add np)) (rs1.addL np t1.reverse) (.ref ?_)
            rw [← rs1.len]
            simp
      | _ => cases e1
theorem e_slc (hK : X.K = K) {a : Expr} {lo hi : Option Expr} {x : Ex} {l h : Exs} {p p2 : Pos} (ha : PE X a (tE K ca R G E x)) (hl : PO X lo (tOp1 K ca R G E l)) (hh : PO X hi (tOp1 K ca R G E h)) : PE X (.Subscript a (.Slice lo hi none p2) p) (tE K ca R G E (.slc x l h)) := by
  refine (pe_slice (sl_ok (ca := ca) (E := E0) hK) ha hl hh).imp fun σ H Q ⟨ρ, S, φ, r, re, rs, e1, go⟩ => ?_
  refine tE_bnd re rs e1 go fun d1 S1 φ1 H1 v1 le1 rs1 rv1 e2 => ?_
  cases q1 : evs R G l ρ S1 with
  | none => rw [q1] at e2; cases e2
  | some o1 =>
    rw [q1] at e2
    cases o1 with
    | er x S2 => cases e2; exact ⟨ρ, S1, φ1, _, re.mono le1, rs1, q1, fun φ2 H2 c dd le2 => go φ2 H2 c dd (le1.trans le2)⟩
    | ok ls S2 =>
      simp only [bnd] at e2
      split at e2
      · rename_i hls
        obtain ⟨lo', hls⟩ := Option.isSome_iff_exists.mp hls
        cases q2 : evs R G h ρ S2 with
        | none => rw [q2] at e2; cases e2
        | some o2 =>
          rw [q2] at e2
          cases o2 with
          | er x S3 =>
            cases e2
            exact ⟨ρ, S1, φ1, _, re.mono le1, rs1, q1, lo', hls, fun φ2 H2 le2 rs2 => ⟨ρ, S2, φ2, _, re.mono (le1.trans le2), rs2, q2, fun φ3 H3 c dd le3 => go φ3 H3 c dd (le1.trans (le2.trans le3))⟩⟩
          | ok hs S3 =>
            simp only at e2
            obtain ⟨d, S', e4, rfl⟩ := lft_some e2
            have e5 := e4
            unfold sl1 at e5
            split at e5
            · rename_i lo' hi' h1 h2
              exact ⟨ρ, S1, φ1, _, re.mono le1, rs1, q1, lo', h1, fun φ2 H2 le2 rs2 => ⟨ρ, S2, φ2, _, re.mono (le1.trans le2), rs2, q2, hi', h2, fun φ3 H3 le3 rs3 => ⟨φ3, S3, d1, ls, hs, d, S', rs3, (rv1.mono le2).mono le3, h1, h2, e4, go.mono (le1.trans (le2.trans le3))⟩⟩⟩
            · cases e5
      · cases e2
/-! ### instances: e.f, o.m(..), {}, n.bit_length() -/
theorem fld1_ins {S : Sto} {cs : List Nat} {f : Str} {d z : D} (h : fld1 cs f S d = some z) : ∃ i c fs, d = .ref i ∧ S[i]? = some (.ins c fs) ∧ c ∈ cs ∧ fs.lookup f = some z := by
  unfold fld1 at h
  split at h
  · rename_i i
    split at h
    · rename_i c fs q
      split at h
      · rename_i hc
        exact ⟨i, c, fs, rfl, insOf_at q, by simpa using hc, h⟩
      · cases h
    · cases h
  · cases h
theorem isMe_ins {S : Sto} {c : Nat} {m : Str} {d : D} (h : isMe c m S d = true) : ∃ i fs, d = .ref i ∧ S[i]? = some (.ins c fs) ∧ fs.lookup m = none := by
  unfold isMe at h
  split at h
  · rename_i i
    split at h
    · rename_i c' fs q
      rw [Bool.and_eq_true, decide_eq_true_eq] at h
      obtain ⟨rfl, h2⟩ := h
      exact ⟨i, fs, rfl, insOf_at q, by simpa using h2⟩
    · cases h
  · cases h
theorem e_fld (c : CK T N K ca R G k X sc B E) {o : Expr} {f : Str} {p : Pos} {x : Ex} {cs : List Nat} (hs : noSuper o = true) (h1 : T.fd.lookup f = some cs) (ho : PE X o (tE K ca R G E x)) : PE X (.Attribute o f p) (tE K ca R G E (.fld x f cs)) := by
  refine (pe_fld ho (base_of hs _ _ _)).imp fun σ H Q ⟨ρ, S, φ, r, re, rs, e1, go⟩ => ?_
  refine tE_bnd re rs e1 go fun d S1 φ1 H1 v le1 rs1 rv1 e2 => ?_
  obtain ⟨z, e3, rfl⟩ := lf0_some e2
  obtain ⟨i, cl, fs, rfl, e4, e5, e6⟩ := fld1_ins e3
  cases rv1 with
  | ref ha =>
    obtain ⟨dx, xs, x1, x2⟩ := rs1.ob _ _ _ e4 ha
    obtain ⟨v, y1, y2⟩ := x2.get e6
    obtain ⟨z1, z2⟩ := c.fds f cs h1 cl e5
    exact ⟨_, _, dx, xs, v, rfl, x1, z1, z2, y1, go φ1 H1 v le1 rs1 y2⟩
theorem e_met (c : CK T N K ca R G k X sc B E) {o : Expr} {as : List Expr} {m : Str} {ap p : Pos} {x : Ex} {xs : Exs} {cl i : Nat} {f : Expr → Option Ex} (hf : ∀ e m, f e = some m → PE X e (tE K ca R G E m)) (hm : T.me.lookup m = some (cl, i)) (ho : PE X o (tE K ca R G E x))
    (h3 : cpL f as = some xs) (hs : noSuper o = true) (hl : (ap.endLine == p.line) = true) (hn : as.length < 20) : PE X (.Call (.Attribute o m ap) as [] p) (tE K ca R G E (.met m cl i x xs)) := by
  obtain ⟨m1, g, fd, ps, m2, m3, m4⟩ := c.mes m cl i hm
  refine (pe_methG m4 c.gd c.rm m1 m2 m3 c.pas ho (es_of hf h3) (base_of hs _ _ _) (cpL_star h3) hn hl (fun z σ H Q h => ?_)).imp fun σ H Q ⟨ρ, S, φ, r, re, rs, e1, go⟩ => ?_
  · have := cpL_nil h3 z
    subst this
    exact evs_none h
  refine tE_bnd re rs e1 go fun d S1 φ1 H1 v le1 rs1 rv1 e2 => ?_
  split at e2
  · rename_i hi
    obtain ⟨j, fs, rfl, e4, e5⟩ := isMe_ins hi
    have rv1' := rv1
    cases rv1 with
    | ref ha =>
      obtain ⟨dx, xs, x1, x2⟩ := rs1.ob _ _ _ e4 ha
      refine ⟨⟨_, dx, xs, rfl, x1, x2.no e5⟩, tEs_bnd (re.mono le1) rs1 e2 (go.mono le1) fun ds S2 φ2 H2 vs le2 rs2 rv2 e3 => ?_⟩
      exact ⟨φ2, S2, .ref j :: ds, r, .cons (rv1'.mono le2) rv2, rs2, e3, go.mono (le1.trans le2)⟩
  · cases e2
theorem e_bits (c : CK T N K ca R G k X sc B E) {o : Expr} {ap p : Pos} {x : Ex} (ho : PE X o (tE K ca R G E x)) (hs : noSuper o = true) (hl : (ap.endLine == p.line) = true) : PE X (.Call (.Attribute o "bit_length" ap) [] [] p) (tE K ca R G E (.o1 .bits x)) := by
  refine (pe_bits ho (base_of hs _ _ _) hl).imp fun σ H Q ⟨ρ, S, φ, r, re, rs, e1, go⟩ => ?_
  refine tE_bnd re rs e1 go fun d S1 φ1 H1 v le1 rs1 rv1 e2 => ?_
  obtain ⟨d', S', e3, rfl⟩ := lft_some e2
  cases d with
  | int i =>
    cases e3
    cases rv1
    exact ⟨_, rfl, go φ1 H1 _ le1 rs1 (.int _)⟩
  | _ => cases e3
theorem e_dvl (c : CK T N K ca R G k X sc B E) {d : Expr} {x : Str} {p ap cp' pos : Pos} {m : Str} {y : Ex} (h1 : gli sc x = true) (h2 : T.bis.contains x = true) (ex : x = ("list" : Str)) (em : m = ("values" : Str)) (hl : (ap.endLine == cp'.line) = true) (hs : noSuper d = true) (hd : PE X d (tE K ca R G E y)) :
    PE X (.Call (.Name x p) [.Call (.Attribute d m ap) [] [] cp'] [] pos) (tE K ca R G E (.o1 .dvl y)) := by
  subst ex em
  refine (ZV.pe_valsT c.calm hd (gli_ok c h1).1 (c.bis _ h2) (base_of hs _ _ _) hl).imp fun σ H Q ⟨ρ, S, φ, r, re, rs, e1, go⟩ => ?_
  refine tE_bnd re rs e1 go fun d1 S1 φ1 H1 v le1 rs1 rv1 e2 => ?_
  obtain ⟨d', S', e3, rfl⟩ := lft_some e2
  cases d1 with
  | ref i =>
    simp only [op1, Option.map_eq_some_iff] at e3
    obtain ⟨kvs, e4, e5⟩ := e3
    cases e5
    cases rv1 with
    | ref ha =>
      obtain ⟨xs, x1, x2, x3⟩ := rs1.ob _ _ _ (dctOf_at e4) ha
      refine ⟨_, xs, rfl, x1, fun q nq => ?_⟩
      refine go (φ1 ++ [q]) _ _ (le1.trans (Le.add nq)) (rs1.addL nq x3) (.ref ?_)
      rw [← rs1.len]
      simp
  | _ => cases e3
theorem e_dn {p : Pos} : PE X (.Dict [] [] p) (tE K ca R G E .dn) := by
  refine pe_dnewT.imp fun σ H Q ⟨ρ, S, φ, r, re, rs, e1, go⟩ => ?_
  cases e1
  intro q nq
  refine go (φ ++ [q]) _ _ (Le.add nq) (rs.add nq rfl ⟨[], upd_same, rfl, .nil⟩) (.ref ?_)
  rw [← rs.len]
  simp
end
end Mx
set_option Elab.async false
set_option linter.all false
set_option maxRecDepth 100000
set_option maxHeartbeats 6500000
namespace Mx
open L2 PySem PySem.Spec PyProof.Rows
section
variable {T : Tb} {N : List Str} {K : PySem.W.Frag} {ca : Nat → Addr} {R : Nat → List D → Sto → Mo D} {G : List D} {k : Nat} {X : Cx} {sc : Scope} {B : Bool} {E : L2.St → XK}
variable {φ φ' : List Addr} {H H' : Hp} {S S' : Sto} {ρ : Rho} {σ : L2.St}
/-! ### targets -/
def gNs : List Nat → TGs
  | [] => gNil
  | i :: is => gCons (gName i) (gNs is)
def gT (K : PySem.W.Frag) : Tg → TG
  | .nm i => gName i
  | .ns l => gTup K l.length (gNs l)
def tgS : Tg → List Nat
  | .nm i => [i]
  | .ns l => l
theorem loc_ok (c : CK T N K ca R G k X sc B E) {x : Str} (h : loc B sc x = true) : Loc X.env.scope x ∧ (X.fn x = true ∨ X.env.scope.names.lookup x = some .local) := by
  unfold loc at h
  rw [c.hs]
  simp only [Bool.or_eq_true, decide_eq_true_eq, Bool.and_eq_true, Bool.not_eq_true'] at h
  rcases h with h | ⟨h1, h2⟩
  · exact ⟨.inl h, .inr h⟩
  · exact ⟨.inr h2, .inl (c.fnl h1 x)⟩
theorem gn_ok (c : CK T N K ca R G k X sc B E) {x : Str} {p : Pos} {i : Nat} (h : loc B sc x = true) (h2 : slot N x = some i) : PG X (.Name x p) (gName i) :=
  pg_name (by rw [c.hN]; exact c.nd) (by rw [c.hN]; exact (slot_at h2).1) (loc_ok c h).1 (loc_ok c h).2
theorem cpNs_each (env : PySem.Env) : ∀ {es : List Expr} {l : List Nat}, cpNs N B sc es = some l → (assignEach es env).length = l.length ∧ (assignEach es env).findIdx? (·.1) = none
  | [], l, h => by cases h; exact ⟨rfl, rfl⟩
  | e :: es, l, h => by
    cases e with
    | Name x p =>
      simp only [cpNs] at h
      split at h
      · split at h
        · rename_i i is h1 h2
          cases h
          obtain ⟨q1, q2⟩ := cpNs_each env h2
          refine ⟨congrArg (· + 1) q1, ?_⟩
          show List.findIdx? (·.1) ((false, assign (.Name x p) env) :: assignEach es env) = none
          rw [List.findIdx?_cons, q2]
          rfl
        · cases h
      · cases h
    | _ => cases h
theorem gns_ok (c : CK T N K ca R G k X sc B E) : ∀ {es : List Expr} {l : List Nat}, cpNs N B sc es = some l → PGs X es (gNs l)
  | [], l, h => by cases h; exact pgs_nil
  | e :: es, l, h => by
    cases e with
    | Name x p =>
      simp only [cpNs] at h
      split at h
      · rename_i hl
        split at h
        · rename_i i is h1 h2
          cases h
          exact pgs_cons (gn_ok c hl h1) (gns_ok c h2) rfl
        · cases h
      · cases h
    | _ => cases h
theorem g_ok (c : CK T N K ca R G k X sc B E) {e : Expr} {t : Tg} (h : cpT N B sc e = some t) : PG X e (gT K t) := by
  cases e with
  | Name x p =>
    simp only [cpT] at h
    split at h
    · rename_i hl
      (simp only [Option.map_eq_some_iff] at h)
      obtain ⟨i, h1, rfl⟩ := h
      exact gn_ok c hl h1
    · cases h
  | Tuple es n p =>
    simp only [cpT, Option.map_eq_some_iff] at h
    obtain ⟨l, h1, rfl⟩ := h
    obtain ⟨q1, q2⟩ := cpNs_each X.env h1
    have := pg_tup (pos := p) (k := n) c.calm (gns_ok c h1) q1 q2
    rw [c.hK] at this
    exact this
  | _ => cases h
theorem wipe_set (σ : L2.St) {i : Nat} {x : Option V} : ∀ {vs : List Nat}, i ∈ vs → L2.wipe (σ.set i x) vs = L2.wipe σ vs
  | v :: vs, h => by
    have com : ∀ {vs : List Nat}, i ∉ vs → L2.wipe (σ.set i x) vs = (L2.wipe σ vs).set i x := fun {vs} => by
      induction vs with
      | nil => intro _; rfl
      | cons w ws ih =>
        intro hn
        simp only [List.mem_cons, not_or] at hn
        show (L2.wipe (σ.set i x) ws).set w none = ((L2.wipe σ ws).set w none).set i x
        rw [ih hn.2, List.set_comm _ _ hn.1]
    show (L2.wipe (σ.set i x) vs).set v none = (L2.wipe σ vs).set v none
    by_cases hi : i ∈ vs
    · rw [wipe_set σ hi]
    · have e : i = v := by
        (rcases List.mem_cons.mp h with e | e)
        · exact e
        · exact absurd e hi
      subst e
      rw [com hi, List.set_set]
theorem wipe_wipe (σ : L2.St) : ∀ vs : List Nat, L2.wipe (L2.wipe σ vs) vs = L2.wipe σ vs := by
  have gen : ∀ (us vs : List Nat), (∀ u ∈ us, u ∈ vs) → L2.wipe (L2.wipe σ us) vs = L2.wipe σ vs := by
    intro us
    induction us with
    | nil => intro vs _; rfl
    | cons u us ih =>
      intro vs h
      show L2.wipe ((L2.wipe σ us).set u none) vs = _
      rw [wipe_set _ (h u List.mem_cons_self), ih vs fun z hz => h z (List.mem_cons_of_mem _ hz)]
  exact fun vs => gen vs vs fun _ h => h
theorem ns_read : ∀ {l : List Nat} {ds : List D} {vs : List V} {ρ ρ1 : Rho} {σ : L2.St} {Q : L2.St → Hp → Prop}, setAll l ds ρ = some ρ1 → RE K φ H ρ σ → RVs K φ H ds vs →
    (∀ σ1, RE K φ H ρ1 σ1 → (∀ ws, (∀ i ∈ l, i ∈ ws) → L2.wipe σ1 ws = L2.wipe σ ws) → Q σ1 H) → gNs l vs σ H Q
  | [], ds, vs, ρ, ρ1, σ, Q, e, re, rv, q => by
    cases rv with
    | nil => cases e; exact ⟨rfl, q σ re fun _ _ => rfl⟩
    | cons r t => cases e
  | i :: is, ds, vs, ρ, ρ1, σ, Q, e, re, rv, q => by
    cases rv with
    | nil => cases e
    | cons r t =>
      refine ⟨_, _, rfl, ns_read e (re.set i r) t fun σ1 re1 hw => q σ1 re1 fun ws h => ?_⟩
      rw [hw ws fun j hj => h j (List.mem_cons_of_mem _ hj), wipe_set σ (h i List.mem_cons_self)]
theorem setAll_len : ∀ {l : List Nat} {ds : List D} {ρ ρ1 : Rho}, setAll l ds ρ = some ρ1 → ds.length = l.length
  | [], [], _, _, _ => rfl
  | [], _ :: _, _, _, h => by cases h
  | _ :: _, [], _, _, h => by cases h
  | _ :: is, _ :: ds, ρ, ρ1, h => congrArg (· + 1) (setAll_len (l := is) (ds := ds) h)
theorem g_read {t : Tg} {d : D} {v : V} {ρ1 : Rho} {Q : L2.St → Hp → Prop} (e : asgT t d ρ = some ρ1) (re : RE K φ H ρ σ) (rv : RV K φ H d v)
    (q : ∀ σ1, RE K φ H ρ1 σ1 → (∀ ws, (∀ i ∈ tgS t, i ∈ ws) → L2.wipe σ1 ws = L2.wipe σ ws) → Q σ1 H) : gT K t v σ H Q := by
  cases t with
  | nm i =>
    cases e
    exact q _ (re.set i rv) fun ws h => wipe_set σ (h i List.mem_cons_self)
  | ns l =>
    cases rv with
    | tup s t1 => exact ⟨_, _, rfl, s, by rw [← t1.length]; exact setAll_len e, ns_read e re t1 q⟩
    | _ => cases e
theorem own_sub {e : Expr} {t : Tg} (h : cpT N B sc e = some t) : ∀ i ∈ tgS t, i ∈ (ownOf N e).map (·.2) := by
  cases e with
  | Name x p =>
    simp only [cpT] at h
    split at h
    · simp only [Option.map_eq_some_iff] at h
      obtain ⟨i, h1, rfl⟩ := h
      intro j hj
      rw [(slot_at h1).2] at hj
      simpa [tgS, ownOf] using hj
    · cases h
  | Tuple es n p =>
    simp only [cpT, Option.map_eq_some_iff] at h
    obtain ⟨l, h1, rfl⟩ := h
    simp only [tgS, ownOf]
    clear n p
    induction es generalizing l with
    | nil => cases h1; intro i hi; cases hi
    | cons e es ih =>
      cases e with
      | Name x p =>
        simp only [cpNs] at h1
        split at h1
        · split at h1
          · rename_i i is h2 h3
            cases h1
            intro j hj
            rw [List.filterMap_cons]
            simp only [List.map_cons]
            rcases List.mem_cons.mp hj with rfl | hj
            · rw [(slot_at h2).2]
              exact List.mem_cons_self
            · exact List.mem_cons_of_mem _ (ih is h3 j hj)
          · cases h1
        · cases h1
      | _ => cases h1
  | _ => cases h
/-! ### walks -/
theorem jok_items {a : Addr} {xs : List V} {l : List D} (hs : SqT K H a xs) (r : RVs K φ H l xs) : JOk K ca φ H (Itt K a) (.items l) := by
  intro φ' H' S i o le rs e
  cases e
  have hs' := sqT_le K le hs
  have r' := r.mono le
  cases q : l[i]? with
  | none =>
    refine ⟨xs, hs', ?_⟩
    rw [← r.length]
    exact List.getElem?_eq_none_iff.mp q
  | some d =>
    obtain ⟨v, hv, rv⟩ := r'.get q
    refine ⟨⟨xs, v, hs', hv⟩, fun x H'' hy => ?_⟩
    obtain ⟨rfl, hy⟩ := hy
    have ex : x = v := Option.some.inj ((hy xs hs').symm.trans hv)
    subst ex
    exact ⟨Le.refl _ _, rs, rv⟩
theorem jok_live {r : Nat} {a : Addr} (h : φ[r]? = some a) : JOk K ca φ H (Itl K a) (.live r) := by
  intro φ' H' S i o le rs e
  simp only [nxt, Option.map_eq_some_iff] at e
  obtain ⟨l, e1, e2⟩ := e
  obtain ⟨xs, s1, t1⟩ := rs.lst e1 (le.get h)
  subst e2
  cases q : l[i]? with
  | none =>
    refine ⟨xs, s1, ?_⟩
    rw [← t1.length]
    exact List.getElem?_eq_none_iff.mp q
  | some d =>
    obtain ⟨v, hv, rv⟩ := t1.get q
    refine ⟨⟨xs, v, s1, hv⟩, fun x H'' hy => ?_⟩
    obtain ⟨rfl, hy⟩ := hy
    have ex : x = v := Option.some.inj ((hy xs s1).symm.trans hv)
    subst ex
    exact ⟨Le.refl _ _, rs, rv⟩
theorem jok_backT {a : Addr} {xs : List V} {l : List D} (hs : SqT K H a xs) (r : RVs K φ H l xs) : JOk K ca φ H (RT.ItvT K a xs.length) (.items l.reverse) := by
  intro φ' H' S i o le rs e
  cases e
  have hs' := sqT_le K le hs
  have r' := r.mono le
  cases q : l.reverse[i]? with
  | none =>
    have z := List.getElem?_eq_none_iff.mp q
    rw [List.length_reverse, r.length] at z
    exact z
  | some d =>
    have hi := (List.getElem?_eq_some_iff.mp q).1
    rw [List.length_reverse] at hi
    rw [List.getElem?_reverse hi, r.length] at q
    obtain ⟨v, hv, rv⟩ := r'.get q
    refine ⟨⟨by rw [← r.length]; exact hi, xs, v, hs', hv⟩, fun x H'' hy => ?_⟩
    obtain ⟨rfl, hy⟩ := hy
    have ex : x = v := Option.some.inj ((hy xs hs').symm.trans hv)
    subst ex
    exact ⟨Le.refl _ _, rs, rv⟩
theorem jok_back {r n : Nat} {a : Addr} (h : φ[r]? = some a) : JOk K ca φ H (Itv K a n) (.back r n) := by
  intro φ' H' S i o le rs e
  simp only [nxt] at e
  split at e
  · rename_i hi
    simp only [Option.bind_eq_some_iff, Option.map_eq_some_iff] at e
    obtain ⟨l, e1, d, e2, e3⟩ := e
    obtain ⟨xs, s1, t1⟩ := rs.lst e1 (le.get h)
    subst e3
    obtain ⟨v, hv, rv⟩ := t1.get e2
    refine ⟨⟨hi, xs, v, s1, hv⟩, fun x H'' hy => ?_⟩
    obtain ⟨rfl, hy⟩ := hy
    have ex : x = v := Option.some.inj ((hy xs s1).symm.trans hv)
    subst ex
    exact ⟨Le.refl _ _, rs, rv⟩
  · rename_i hi
    cases e
    exact Nat.le_of_not_lt hi
theorem sq_of_seq {d : D} {v : V} {l : List D} (rs : RS K ca φ H S) (rv : RV K φ H d v) (e : seqOf S d = some l) : ∃ (b : Bool) (a : Addr), v = .ref a ∧ ∀ φ' H' S' l', Le φ H φ' H' → RS K ca φ' H' S' → seqOf S' d = some l' → ∃ xs, ZP.SqX K b H' a xs ∧ RVs K φ' H' l' xs := by
  unfold seqOf at e
  split at e
  · cases rv with
    | tup s t =>
      refine ⟨false, _, rfl, fun φ' H' S' l' le rs' e' => ?_⟩
      cases e'
      exact ⟨_, sqT_le K le s, t.mono le⟩
  · cases rv with
    | ref ha =>
      refine ⟨true, _, rfl, fun φ' H' S' l' le rs' e' => ?_⟩
      obtain ⟨xs, h1, h2⟩ := rs'.lst e' (le.get ha)
      exact ⟨xs, h1, h2⟩
  · cases e
theorem jok_zip {b1 b2 : Bool} {a b : Addr} {d1 d2 : D} (s1 : ∀ φ' H' S l, Le φ H φ' H' → RS K ca φ' H' S → seqOf S d1 = some l → ∃ xs, ZP.SqX K b1 H' a xs ∧ RVs K φ' H' l xs)
    (s2 : ∀ φ' H' S l, Le φ H φ' H' → RS K ca φ' H' S → seqOf S d2 = some l → ∃ xs, ZP.SqX K b2 H' b xs ∧ RVs K φ' H' l xs) : JOk K ca φ H (ZP.ItzX K b1 b2 a b) (.zp d1 d2) := by
  intro φ' H' S i o le rs e
  simp only [nxt] at e
  split at e
  · rename_i l1 l2 q1 q2
    obtain ⟨xs, x1, t1⟩ := s1 _ _ _ _ le rs q1
    obtain ⟨ys, y1, t2⟩ := s2 _ _ _ _ le rs q2
    split at e
    · rename_i hz
      split at e
      · rename_i u v hu hv
        cases e
        obtain ⟨x, hx, rx⟩ := t1.get hu
        obtain ⟨y, hy, ry⟩ := t2.get hv
        refine ⟨⟨xs, ys, x, y, x1, y1, hx, hy⟩, fun w H'' hyld => ?_⟩
        obtain ⟨T, x', y', rfl, hT, rfl, f1, f2⟩ := hyld
        have ex : x' = x := Option.some.inj ((f1 xs x1).symm.trans hx)
        have ey : y' = y := Option.some.inj ((f2 ys y1).symm.trans hy)
        subst ex ey
        have le' : Le φ' H' φ' (upd H' T (.tup [x', y'])) := Le.new hT
        exact ⟨le', rs.new hT, .tup (.of upd_same) ((RVs.cons rx (.cons ry .nil)).mono le')⟩
      · rename_i hno
        cases e
        have l1' := t1.length
        have l2' := t2.length
        refine ⟨xs, ys, x1, y1, by omega, by omega, ?_⟩
        by_cases c1 : i < l1.length
        · by_cases c2 : i < l2.length
          · exact absurd (List.getElem?_eq_getElem c2) (hno _ _ (List.getElem?_eq_getElem c1))
          · right; omega
        · left; omega
    · cases e
  · cases e
theorem i_zip (c : CK T N K ca R G k X sc B E) {elts : List Expr} {kk : Nat} {tpos : Pos} {a b : Expr} {ms : Exs} {p q : Pos} {f : Expr → Option Ex} (hf : ∀ e m, f e = some m → PE X e (tE K ca R G E m)) (g : gli sc "zip" = true) (bi : T.bis.contains ("zip" : Str) = true) (h : cpL f [a, b] = some ms) :
    PI X (.Tuple elts kk tpos) (.Call (.Name "zip" p) [a, b] [] q) (tI K ca R G E .zip ms) := by
  have hn := cpL_star h
  refine (ZP.pi_zipX (gli_ok c g).1 (c.bis _ bi) (es_of hf h) (star_cons (hn a List.mem_cons_self) _ _) (plain_any _ _ fun e he => hn e (List.mem_cons_of_mem _ he))).imp fun σ H P ⟨ρ, S, φ, r, re, rs, e1, q⟩ => ?_
  obtain rfl := c.hK
  refine ⟨ρ, S, φ, r, re, rs, e1, ?_⟩
  cases r with
  | er x S1 => exact q
  | ok ds S1 =>
    obtain ⟨j, hj, q⟩ := q
    intro φ1 H1 vs le1 rs1 rv1
    obtain ⟨d1, d2, rfl⟩ : ∃ d1 d2, ds = [d1, d2] := by
      rcases ds with _ | ⟨d1, _ | ⟨d2, _ | ⟨d3, ds⟩⟩⟩
      · cases hj
      · cases hj
      · exact ⟨_, _, rfl⟩
      · cases hj
    simp only [it1] at hj
    split at hj
    · rename_i l1 l2 q1 q2
      cases hj
      cases rv1 with
      | cons r1 r2 => cases r2 with
        | cons r2 r3 =>
          cases r3
          obtain ⟨b1, a1, rfl, s1⟩ := sq_of_seq rs1 r1 q1
          obtain ⟨b2, a2, rfl, s2⟩ := sq_of_seq rs1 r2 q2
          obtain ⟨xs, x1, _⟩ := s1 _ _ _ _ (Le.refl _ _) rs1 q1
          obtain ⟨ys, y1, _⟩ := s2 _ _ _ _ (Le.refl _ _) rs1 q2
          exact ⟨a1, a2, xs, ys, rfl, b1, b2, x1, y1, q φ1 H1 _ le1 rs1 (jok_zip s1 s2)⟩
    · cases hj
theorem jok_rng {lo : Int} {n : Nat} : JOk K ca φ H (L2.Itr lo n) (.items (rng lo n)) := by
  intro φ' H' S i o le rs e
  cases e
  cases q : (rng lo n)[i]? with
  | none =>
    have := List.getElem?_eq_none_iff.mp q
    show n ≤ i
    simpa [rng] using this
  | some d =>
    have hi := (List.getElem?_eq_some_iff.mp q).1
    have hi' : i < n := by simpa [rng] using hi
    refine ⟨hi', fun x H'' hy => ?_⟩
    obtain ⟨rfl, rfl⟩ := hy
    refine ⟨Le.refl _ _, rs, ?_⟩
    unfold rng at q
    rw [List.getElem?_map, List.getElem?_range hi'] at q
    cases q
    exact .int _
theorem evs_one {m : Ex} {r : Rs (List D)} (e : evs R G (.cons m .nil) ρ S = some r) : (∃ d S1, ev R G m false ρ S = some (.ok d S1) ∧ r = .ok [d] S1) ∨ ∃ x S1, ev R G m false ρ S = some (.er x S1) ∧ r = .er x S1 := by
  simp only [evs] at e
  cases q : ev R G m false ρ S with
  | none => (rw [q] at e; cases e)
  | some o =>
    rw [q] at e
    cases o with
    | ok d S1 => cases e; exact .inl ⟨d, S1, rfl, rfl⟩
    | er x S1 => cases e; exact .inr ⟨x, S1, rfl, rfl⟩
theorem jok_sgn {φ : List Addr} {H : Hp} {x : Str} : JOk K ca φ H (Its x) (.sgn x) := fun φ' H' S i o le rs e => by
  simp only [nxt, Option.some.injEq] at e
  subst e
  cases q : x.cps[i]? with
  | none => exact Array.getElem?_eq_none_iff.mp q
  | some c =>
    refine ⟨(Array.getElem?_eq_some_iff.mp q).1, fun v H'' hy => ?_⟩
    obtain ⟨rfl, c', e1, rfl⟩ := hy
    rw [q] at e1
    cases e1
    exact ⟨Le.refl _ _, rs, .str _⟩
theorem i_val (hK : X.K = K) {tg e : Expr} {m : Ex} (h : PE X e (tE K ca R G E m)) : PI X tg e (tI K ca R G E .val (.cons m .nil)) := by
  refine (((pi_list h).or (pi_tup h)).or (pi_str h)).imp fun σ H P ⟨ρ, S, φ, r, re, rs, e1, q⟩ => ?_
  subst hK
  rcases evs_one e1 with ⟨d, S1, e2, rfl⟩ | ⟨x, S1, e2, rfl⟩
  · obtain ⟨j, hj, q⟩ := q
    cases d with
    | tup l =>
      cases hj
      refine .inl (.inr ⟨ρ, S, φ, _, re, rs, e2, fun φ1 H1 v le1 rs1 rv1 => ?_⟩)
      cases rv1 with
      | tup s t => exact ⟨_, rfl, ⟨_, s⟩, q φ1 H1 _ le1 rs1 (jok_items s t)⟩
    | str x =>
      cases hj
      refine .inr ⟨ρ, S, φ, _, re, rs, e2, fun φ1 H1 v le1 rs1 rv1 => ?_⟩
      cases rv1
      exact ⟨x, rfl, q φ1 H1 _ le1 rs1 jok_sgn⟩
    | ref i =>
      simp only [it1, itV, Option.map_eq_some_iff] at hj
      obtain ⟨l, hl, rfl⟩ := hj
      refine .inl (.inl ⟨ρ, S, φ, _, re, rs, e2, fun φ1 H1 v le1 rs1 rv1 => ?_⟩)
      cases rv1 with
      | ref ha =>
        obtain ⟨xs, s1, _⟩ := rs1.lst hl ha
        exact ⟨_, rfl, ⟨xs, s1⟩, q φ1 H1 _ le1 rs1 (jok_live ha)⟩
    | _ => cases hj
  · exact .inl (.inl ⟨ρ, S, φ, _, re, rs, e2, q⟩)
theorem i_rev (c : CK T N K ca R G k X sc B E) {tg a : Expr} {m : Ex} {p q : Pos} (hn : noStar a = true) (g : gli sc "reversed" = true) (b : T.bis.contains ("reversed" : Str) = true) (h : PE X a (tE K ca R G E m)) :
    PI X tg (.Call (.Name "reversed" p) [a] [] q) (tI K ca R G E .rev (.cons m .nil)) := by
  refine (RT.pi_revA (gli_ok c g).1 (c.bis _ b) h (star_cons hn _ _)).imp fun σ H P ⟨ρ, S, φ, r, re, rs, e1, q⟩ => ?_
  obtain rfl := c.hK
  rcases evs_one e1 with ⟨d, S1, e2, rfl⟩ | ⟨x, S1, e2, rfl⟩
  · obtain ⟨j, hj, q⟩ := q
    refine ⟨ρ, S, φ, _, re, rs, e2, fun φ1 H1 v le1 rs1 rv1 => ?_⟩
    cases d with
    | tup l =>
      cases hj
      cases rv1 with
      | tup s t => exact ⟨_, _, rfl, .inr ⟨s, q φ1 H1 _ le1 rs1 (jok_backT s t)⟩⟩
    | ref i =>
      simp only [it1, Option.map_eq_some_iff] at hj
      obtain ⟨l, hl, rfl⟩ := hj
      cases rv1 with
      | ref ha =>
        obtain ⟨xs, s1, t1⟩ := rs1.lst hl ha
        refine ⟨_, xs, rfl, .inl ⟨s1, q φ1 H1 _ le1 rs1 ?_⟩⟩
        rw [← t1.length]
        exact jok_back ha
    | _ => cases hj
  · exact ⟨ρ, S, φ, _, re, rs, e2, q⟩
theorem okR_iff {i : Int} (h : okR i = true) : -(2 ^ 62) ≤ i ∧ i < 2 ^ 62 := by
  have h' : i.natAbs ≤ 2 ^ 62 - 1 := Nat.le_of_ble_eq_true h
  omega
theorem i_rng1 (c : CK T N K ca R G k X sc B E) {tg a : Expr} {m : Ex} {p q : Pos} (hn : noStar a = true) (g : gli sc "range" = true) (b : T.bis.contains ("range" : Str) = true) (h : PE X a (tE K ca R G E m)) :
    PI X tg (.Call (.Name "range" p) [a] [] q) (tI K ca R G E .rng (.cons m .nil)) := by
  refine (pi_range1 (gli_ok c g).1 (c.bis _ b) (pa_cons h pa_nil (star_cons hn _ _)) (star_cons hn _ _)).imp fun σ H P ⟨ρ, S, φ, r, re, rs, e1, q⟩ => ?_
  rcases evs_one e1 with ⟨d, S1, e2, rfl⟩ | ⟨x, S1, e2, rfl⟩
  · obtain ⟨j, hj, q⟩ := q
    refine ⟨ρ, S, φ, _, re, rs, e2, fun φ1 H1 v le1 rs1 rv1 => ?_⟩
    cases rv1 with
    | int i =>
      simp only [it1] at hj
      split at hj
      · rename_i hi
        cases hj
        obtain ⟨b1, b2⟩ := okR_iff hi
        exact ⟨i, rfl, b1, b2, q φ1 H1 _ le1 rs1 jok_rng⟩
      · cases hj
    | _ => cases hj
  · exact ⟨ρ, S, φ, _, re, rs, e2, q⟩
theorem i_rng2 (c : CK T N K ca R G k X sc B E) {tg a b : Expr} {m n : Ex} {p q : Pos} (hn : noStar a = true) (hn2 : noStar b = true) (g : gli sc "range" = true) (bi : T.bis.contains ("range" : Str) = true) (h : PE X a (tE K ca R G E m)) (h2 : PE X b (tE K ca R G E n)) :
    PI X tg (.Call (.Name "range" p) [a, b] [] q) (tI K ca R G E .rng (.cons m (.cons n .nil))) := by
  have st2 : starEach [b] X.env = [(false, eval b X.env)] := star_cons hn2 _ _
  refine (pi_range2 (gli_ok c g).1 (c.bis _ bi) (pa_cons h (pa_cons h2 pa_nil (star_cons hn2 _ _)) (star_cons hn _ _)) ((star_cons hn _ _).trans (by rw [st2])) st2).imp fun σ H P ⟨ρ, S, φ, r, re, rs, e1, q⟩ => ?_
  simp only [evs] at e1
  cases q1 : ev R G m false ρ S with
  | none => rw [q1] at e1; cases e1
  | some o1 =>
    rw [q1] at e1
    cases o1 with
    | er x S1 => cases e1; exact ⟨ρ, S, φ, _, re, rs, q1, q⟩
    | ok d1 S1 =>
      simp only [bnd] at e1
      refine ⟨ρ, S, φ, _, re, rs, q1, fun φ1 H1 v1 le1 rs1 rv1 => ?_⟩
      cases q2 : ev R G n false ρ S1 with
      | none => rw [q2] at e1; cases e1
      | some o2 =>
        rw [q2] at e1
        cases o2 with
        | er x S2 => cases e1; exact ⟨ρ, S1, φ1, _, re.mono le1, rs1, q2, fun φ2 H2 c dd le2 => q φ2 H2 c dd (le1.trans le2)⟩
        | ok d2 S2 =>
          cases e1
          obtain ⟨j, hj, q⟩ := q
          refine ⟨ρ, S1, φ1, _, re.mono le1, rs1, q2, fun φ2 H2 v2 le2 rs2 rv2 => ?_⟩
          cases rv1 with
          | int i =>
            cases rv2 with
            | int i2 =>
              simp only [it1] at hj
              split at hj
              · rename_i hi
                rw [Bool.and_eq_true] at hi
                cases hj
                obtain ⟨b1, b2⟩ := okR_iff hi.1
                obtain ⟨b3, b4⟩ := okR_iff hi.2
                exact ⟨i, i2, rfl, ⟨b1, b2, b3, b4⟩, q φ2 H2 _ (le1.trans le2) rs2 jok_rng⟩
              · cases hj
            | _ => cases hj
          | _ => cases hj
theorem fold_of {e : Expr} (h : noSet e = true) (env : PySem.Env) (x : Value) : foldedSetIterable e env x = pure x := by
  cases e <;> first | rfl | cases h
theorem i_ok (c : CK T N K ca R G k X sc B E) {tg e : Expr} {kd : Ib} {as : Exs} {f : Expr → Option Ex} (hf : ∀ e m, f e = some m → PE X e (tE K ca R G E m)) (h : cpI T sc (isTup tg) f e = some (kd, as)) :
    PI X tg e (tI K ca R G E kd as) ∧ ∀ x, foldedSetIterable e X.env x = pure x := by
  unfold cpI at h
  split at h
  · rename_i x p a r pos
    refine ⟨?_, fun x => rfl⟩
    split at h
    · rename_i hx
      obtain ⟨rfl, h1, h2, h3⟩ := hx
      simp only [Option.map_eq_some_iff, Prod.mk.injEq] at h
      obtain ⟨ms, h4, h5, h6⟩ := h
      subst h5 h6
      have st := cpL_star h4
      cases r with
      | nil =>
        simp only [cpL] at h4
        split at h4
        · split at h4
          · rename_i m ms' q1 q2
            cases h4
            cases q2
            exact i_rng1 c (st a List.mem_cons_self) h1 h2 (hf _ _ q1)
          · cases h4
        · cases h4
      | cons b r =>
        cases r with
        | cons _ _ => simp at h3
        | nil =>
          simp only [cpL] at h4
          split at h4
          · split at h4
            · rename_i m ms' q1 q2
              cases h4
              split at q2
              · split at q2
                · rename_i m2 ms2 q3 q4
                  cases q2
                  cases q4
                  exact i_rng2 c (st a List.mem_cons_self) (st b (List.mem_cons_of_mem _ List.mem_cons_self)) h1 h2 (hf _ _ q1) (hf _ _ q3)
                · cases q2
              · cases q2
            · cases h4
          · cases h4
    · split at h
      · rename_i hx
        obtain ⟨rfl, h1, h2, h3, h7⟩ := hx
        simp only [Option.map_eq_some_iff, Prod.mk.injEq] at h
        obtain ⟨m, h4, h5, h6⟩ := h
        subst h5 h6
        cases r with
        | nil => exact i_rev c h7 h1 h2 (hf _ _ h4)
        | cons _ _ => cases h3
      · split at h
        · rename_i hx
          obtain ⟨rfl, h1, h2, h3, h7⟩ := hx
          simp only [Option.map_eq_some_iff, Prod.mk.injEq] at h
          obtain ⟨ms, h4, h5, h6⟩ := h
          subst h5 h6
          cases tg with
          | Tuple elts kk tpos =>
            cases r with
            | nil => cases h7
            | cons b r =>
              cases r with
              | nil => exact i_zip c hf h1 h2 h4
              | cons _ _ => simp at h7
          | _ => cases h3
        · simp only [Option.map_eq_some_iff, Prod.mk.injEq] at h
          obtain ⟨m, h4, h5, h6⟩ := h
          subst h5 h6
          exact i_val c.hK (hf _ _ h4)
  · split at h
    · rename_i hn
      rw [Bool.and_eq_true] at hn
      simp only [Option.map_eq_some_iff, Prod.mk.injEq] at h
      obtain ⟨m, h4, h5, h6⟩ := h
      subst h5 h6
      exact ⟨i_val c.hK (hf _ _ h4), fold_of hn.2 _⟩
    · cases h
end
end Mx
set_option Elab.async false
set_option linter.all false
set_option maxRecDepth 100000
set_option maxHeartbeats 6500000
namespace Mx
open L2 PySem PySem.Spec PyProof.Rows
section
variable {T : Tb} {N : List Str} {K : PySem.W.Frag} {ca : Nat → Addr} {R : Nat → List D → Sto → Mo D} {G : List D} {k : Nat} {X : Cx} {sc : Scope} {B : Bool} {E : L2.St → XK}
variable {φ φ' : List Addr} {H H' : Hp} {S S' : Sto} {ρ : Rho} {σ : L2.St}
/-- within a comprehension's block -/
theorem CK.blk (c : CK T N K ca R G k X sc B E) (s : Shared) (H : Hp) (scope : Scope) (hk : scope.kind = .function) (cl : List (Str × Addr)) (C : Addr) (fp : List Addr) :
    CK T N K ca R G k (X.blk s H scope (compEnvC scope cl C X.env) fp) (relS scope sc) true (fun _ => E0) where
  hs := by
    show relS scope X.env.scope = _
    rw [c.hs]
  knd := hk
  hN := c.hN
  nd := c.nd
  hK := c.hK
  calm := c.calm
  gd := c.gd
  room := c.room
  fnl := fun e => by cases e
  fns := c.fns
  bis := c.bis
  mth := c.mth
  gls := c.gls
  gds := c.gds
  dfs := c.dfs
  pas := fun _ _ _ _ _ _ _ h => passL _ _ _ _ _ _ (by assumption) h
  tks := fun e => by cases e
  stk := fun e => by cases e
  xcs := c.xcs
  xhs := c.xhs
  cls := c.cls
  mes := c.mes
  fds := c.fds
def tV (K : PySem.W.Frag) (ca : Nat → Addr) (R : Nat → List D → Sto → Mo D) (G : List D) (E : L2.St → XK) : Exs → TT
  | .nil => tYes
  | .cons a _ => tT K ca R G E a
  | .star _ _ => tYes
theorem lc_read {el : Ex} {own : List Nat} {t : Tg} {kd : Ib} {as ifs : Exs} {Q : VK} {r : Rs D} (ht : ∀ i ∈ tgS t, i ∈ own) (re : RE K φ H ρ σ) (rs : RS K ca φ H S) (e1 : ev R G (.lc el own t kd as ifs) false ρ S = some r) (go : Go K ca (E σ) φ H r Q) :
    tLc (tI K ca R G E kd as) (gT K t) (tV K ca R G (fun _ => E0) ifs) (tE K ca R G (fun _ => E0) el) own σ H Q := by
  have e2 : bnd (evs R G as ρ S) (fun ds S1 => match it1 S1 kd ds with
    | some j => lcL (fun ρ S => ev R G el false ρ S) (fun ρ S => evt R G ifs ρ S) t j (wipeD ρ own) S1.length (lenI j S1 + 1) 0 (S1 ++ [.lst []])
    | none => none) = some r := by
    rw [ev] at e1
    exact e1
  cases q1 : evs R G as ρ S with
  | none => rw [q1] at e2; cases e2
  | some o1 =>
    rw [q1] at e2
    cases o1 with
    | er x S1 => cases e2; exact ⟨ρ, S, φ, _, re, rs, q1, go⟩
    | ok ds S1 =>
      simp only [bnd] at e2
      split at e2
      · rename_i j hj
        refine ⟨ρ, S, φ, _, re, rs, q1, j, hj, fun φ1 H1 J le1 rs1 jok Dd nD => ?_⟩
        have b0 : RS K ca (φ1 ++ [Dd]) (upd H1 Dd (.lst [])) (S1 ++ [.lst []]) := rs1.addL nD .nil
        have bl : Le φ1 H1 (φ1 ++ [Dd]) (upd H1 Dd (.lst [])) := Le.add nD
        have kD : (φ1 ++ [Dd])[S1.length]? = some Dd := by rw [← rs1.len]; simp
        refine ⟨fun i m H2 => ∃ φ2 S2, Le (φ1 ++ [Dd]) (upd H1 Dd (.lst [])) φ2 H2 ∧ RS K ca φ2 H2 S2 ∧
          lcL (fun ρ S => ev R G el false ρ S) (fun ρ S => evt R G ifs ρ S) t j (wipeD ρ own) S1.length m i S2 = some r, ⟨_, _, _, Le.refl _ _, b0, e2⟩, ?_⟩
        rintro i m H2 ⟨φ2, S2, le2, rs2, e3⟩
        cases m with
        | zero => cases e3
        | succ n =>
          rw [lcL] at e3
          cases q2 : nxt j i S2 with
          | none => rw [q2] at e3; cases e3
          | some o2 =>
            rw [q2] at e3
            have jo := jok φ2 H2 S2 i o2 (bl.trans le2) rs2 q2
            cases o2 with
            | none =>
              cases e3
              exact .inl ⟨jo, (go.mono (le1.trans (bl.trans le2))).here rs2 (.ref (le2.get kD))⟩
            | some d =>
              simp only at e3
              refine .inr ⟨jo.1, fun H' => ∃ φ' S', Le (φ1 ++ [Dd]) (upd H1 Dd (.lst [])) φ' H' ∧ RS K ca φ' H' S' ∧
                lcL (fun ρ S => ev R G el false ρ S) (fun ρ S => evt R G ifs ρ S) t j (wipeD ρ own) S1.length n (i + 1) S' = some r, fun H' z => ⟨n, Nat.lt_succ_self n, z⟩, fun x H' hy => ?_⟩
              obtain ⟨le3, rs3, rv3⟩ := jo.2 x H' hy
              cases q3 : asgT t d (wipeD ρ own) with
              | none => rw [q3] at e3; cases e3
              | some ρ1 =>
                rw [q3] at e3
                have leA : Le φ H φ2 H' := le1.trans (bl.trans (le2.trans le3))
                refine g_read q3 ((re.mono leA).wipe own) rv3 fun σ1 re1 hw => ⟨(hw own ht).trans (wipe_wipe σ own), ?_⟩
                simp only at e3
                -- the test
                have tail : ∀ {S3 φ3 H3}, Le (φ1 ++ [Dd]) (upd H1 Dd (.lst [])) φ3 H3 → RS K ca φ3 H3 S3 → RE K φ3 H3 ρ1 σ1 →
                    (match ev R G el false ρ1 S3 with
                      | some (.ok y S2) => match mutOf S2 S1.length with
                        | some acc => if acc.length < LIM then lcL (fun ρ S => ev R G el false ρ S) (fun ρ S => evt R G ifs ρ S) t j (wipeD ρ own) S1.length n (i + 1) (S2.set S1.length (.lst (acc ++ [y]))) else none
                        | none => none
                      | _ => none) = some r →
                    tE K ca R G (fun _ => E0) el σ1 H3 fun y H4 => ∃ acc, H4 Dd = some (.lst acc) ∧ acc.length < sizeLine ∧ ∃ φ' S', Le (φ1 ++ [Dd]) (upd H1 Dd (.lst [])) φ' (upd H4 Dd (.lst (acc ++ [y]))) ∧ RS K ca φ' (upd H4 Dd (.lst (acc ++ [y]))) S' ∧
                      lcL (fun ρ S => ev R G el false ρ S) (fun ρ S => evt R G ifs ρ S) t j (wipeD ρ own) S1.length n (i + 1) S' = some r := by
                  intro S3 φ3 H3 leB rsB reB e5
                  cases q5 : ev R G el false ρ1 S3 with
                  | none => rw [q5] at e5; cases e5
                  | some o5 =>
                    rw [q5] at e5
                    cases o5 with
                    | er x S4 => cases e5
                    | ok y S4 =>
                      refine ⟨ρ1, S3, φ3, _, reB, rsB, q5, fun φ4 H4 v le4 rs4 rv4 => ?_⟩
                      simp only at e5
                      split at e5
                      · rename_i acc hacc
                        split at e5
                        · rename_i hz
                          have kD4 : φ4[S1.length]? = some Dd := (leB.trans le4).get kD
                          obtain ⟨xs, x1, x2⟩ := rs4.mut hacc kD4
                          refine ⟨xs, x1, by rw [← x2.length]; exact lim_lt hz, φ4, _, (leB.trans le4).trans (Le.mut x1), rs4.put (mutOf_at hacc) kD4 x1 (x2.append (.cons rv4 .nil)), e5⟩
                        · cases e5
                      · cases e5
                cases ifs with
                | star a rest =>
                  simp only [evt] at e3
                  cases e3
                | nil =>
                  simp only [evt] at e3
                  simp only [tV, tYes, if_true]
                  exact tail (le2.trans le3) rs3 re1 e3
                | cons a rest =>
                  show tT K ca R G (fun _ => E0) a σ1 H' _
                  simp only [evt] at e3
                  cases q4 : ev R G a true ρ1 S2 with
                  | none => rw [q4] at e3; cases e3
                  | some o4 =>
                    rw [q4] at e3
                    cases o4 with
                    | er x S3 => cases e3
                    | ok b S3 =>
                      refine ⟨ρ1, S2, φ2, _, re1, rs3, q4, fun φ3 H3 v le4 rs4 rv4 => ?_⟩
                      cases rv4 with
                      | bl bb =>
                        refine ⟨bb, rfl, ?_⟩
                        cases bb with
                        | true =>
                          rw [if_pos rfl]
                          exact tail ((le2.trans le3).trans le4) rs4 (re1.mono le4) e3
                        | false =>
                          (rw [if_neg Bool.false_ne_true])
                          exact ⟨φ3, S3, (le2.trans le3).trans le4, rs4, e3⟩
                      | _ => cases e3
      · cases e2
/-- the parts of a comprehension, as its rule asks them -/
theorem lc_parts (c : CK T N K ca R G k X sc B E) {elt tg it : Expr} {ifs : List Expr} {scope : Scope} {t : Tg} {m : Ex} {fs : Exs} (n : Nat)
    (ih : ∀ (X : Cx) (sc : Scope) (B : Bool) (E : L2.St → XK), CK T N K ca R G k X sc B E → ∀ e m, cp T N n B sc e = some m → PE X e (tE K ca R G E m) ∧ PT X e (tT K ca R G E m))
    (hb : blkC N sc scope (ownOf N tg) = true) (h2 : cpT N true (relS scope sc) tg = some t) (h3 : cp T N n true (relS scope sc) elt = some m) (h4 : cpL (cp T N n true (relS scope sc)) ifs = some fs) (h5 : ifs.length ≤ 1) :
    BlkOk X.N X.env.scope scope (ownOf N tg) ∧
    (∀ (s : Shared) (H : Hp) (C : Addr) (cl : List (Str × Addr)) (fp : List Addr), PG (X.blk s H scope (compEnvC scope cl C X.env) fp) tg (gT K t)) ∧
    (∀ (s : Shared) (H : Hp) (C : Addr) (cl : List (Str × Addr)) (fp : List Addr), PTs (X.blk s H scope (compEnvC scope cl C X.env) fp) ifs (tV K ca R G (fun _ => E0) fs)) ∧
    (∀ (s : Shared) (H : Hp) (C : Addr) (cl : List (Str × Addr)) (fp : List Addr), PE (X.blk s H scope (compEnvC scope cl C X.env) fp) elt (tE K ca R G (fun _ => E0) m)) := by
  have bo := blkOk_by hb
  have kd := bo.kind
  refine ⟨by rw [c.hN, c.hs]; exact bo, fun s H C cl fp => g_ok (c.blk s H scope kd cl C fp) h2, fun s H C cl fp => ?_, fun s H C cl fp => (ih _ _ _ _ (c.blk s H scope kd cl C fp) _ _ h3).1⟩
  cases ifs with
  | nil => cases h4; exact pts_nil
  | cons a rest =>
    cases rest with
    | cons _ _ => simp at h5
    | nil =>
      simp only [cpL] at h4
      split at h4
      · split at h4
        · rename_i m1 ms q1 q2
          cases h4
          exact pts_one (ih _ _ _ _ (c.blk s H scope kd cl C fp) _ _ q1).2
        · cases h4
      · cases h4
end
end Mx
set_option Elab.async false
set_option linter.all false
set_option maxRecDepth 100000
set_option maxHeartbeats 8000000
namespace Mx
open L2 PySem PySem.Spec PyProof.Rows
section
variable {T : Tb} {N : List Str} {K : PySem.W.Frag} {ca : Nat → Addr} {R : Nat → List D → Sto → Mo D} {G : List D} {k : Nat}
def Both (K : PySem.W.Frag) (ca : Nat → Addr) (R : Nat → List D → Sto → Mo D) (G : List D) (E : L2.St → XK) (X : Cx) (e : Expr) (m : Ex) : Prop :=
  PE X e (tE K ca R G E m) ∧ PT X e (tT K ca R G E m) ∧ ∀ op vs p, e = .BoolOp op vs p → PW X e (tT K ca R G E m)
theorem both_of {X : Cx} {E : L2.St → XK} {e : Expr} {m : Ex} (h1 : PE X e (tE K ca R G E m)) (h2 : PT X e (tT K ca R G E m)) (h3 : ∀ op vs p, e ≠ .BoolOp op vs p) : Both K ca R G E X e m := ⟨h1, h2, fun op vs p q => absurd q (h3 op vs p)⟩
/-- plain: its truth is its value's -/
theorem both_v {X : Cx} {E : L2.St → XK} {e : Expr} {m : Ex} (hK : X.K = K) (h1 : PE X e (tE K ca R G E m)) (hm : ∀ ρ S, ev R G m true ρ S = bnd (ev R G m false ρ S) fun d S => lf0 ((tru S d).map .bl) S)
    (he : ∀ whole, isTrue e X.env whole = (do let v ← whole; standAt e.pos; holding [v] (truthy v))) (h3 : ∀ op vs p, e ≠ .BoolOp op vs p) : Both K ca R G E X e m := both_of h1 (pt_plain hK h1 hm he) h3
theorem cp_ok : ∀ (n : Nat) (X : Cx) (sc : Scope) (B : Bool) (E : L2.St → XK), CK T N K ca R G k X sc B E → ∀ e m, cp T N n B sc e = some m → Both K ca R G E X e m := by
  intro n
  induction n with
  | zero => intro X sc B E c e m h; cases h
  | succ n ih =>
    intro X sc B E c e m h
    have hf : ∀ e m, cp T N n B sc e = some m → PE X e (tE K ca R G E m) := fun e m q => (ih X sc B E c e m q).1
    have ht : ∀ e m, cp T N n B sc e = some m → PT X e (tT K ca R G E m) := fun e m q => (ih X sc B E c e m q).2.1
    cases e with
    | Name x p =>
      simp only [cp] at h
      split at h
      · rename_i hv
        (simp only [Option.map_eq_some_iff] at h)
        obtain ⟨i, h1, rfl⟩ := h
        exact both_v c.hK (e_var c hv h1) (fun _ _ => rfl) (fun _ => rfl) (fun _ _ _ q => by cases q)
      · split at h
        · rename_i hg
          rw [Bool.and_eq_true] at hg
          cases h
          exact both_v c.hK (e_glb c hg.1 hg.2) (fun _ _ => rfl) (fun _ => rfl) (fun _ _ _ q => by cases q)
        · cases h
    | Constant v j p =>
      cases v with
      | int i => cases h; exact both_v c.hK (e_cst pe_int fun _ _ => .int i) (fun _ _ => rfl) (fun _ => rfl) (fun _ _ _ q => by cases q)
      | bool b => cases h; exact both_v c.hK (e_cst pe_bl fun _ _ => .bl b) (fun _ _ => rfl) (fun _ => rfl) (fun _ _ _ q => by cases q)
      | str x => cases h; exact both_v c.hK (e_cst pe_str fun _ _ => .str x) (fun _ _ => rfl) (fun _ => rfl) (fun _ _ _ q => by cases q)
      | none => cases h; exact both_v c.hK (e_cst pe_non fun _ _ => .non) (fun _ _ => rfl) (fun _ => rfl) (fun _ _ _ q => by cases q)
      | _ => cases h
    | BinOp a op b p =>
      simp only [cp] at h
      split at h
      · rename_i o x y h1 h2 h3
        cases h
        exact both_v c.hK (e_bin c.hK h1 (hf _ _ h2) (hf _ _ h3)) (fun _ _ => rfl) (fun _ => rfl) (fun _ _ _ q => by cases q)
      · cases h
    | UnaryOp op a p =>
      cases op with
      | USub =>
        simp only [cp, Option.map_eq_some_iff] at h
        obtain ⟨x, h1, rfl⟩ := h
        exact both_v c.hK (e_neg (hf _ _ h1)) (fun _ _ => rfl) (fun _ => rfl) (fun _ _ _ q => by cases q)
      | Not =>
        simp only [cp, Option.map_eq_some_iff] at h
        obtain ⟨x, h1, rfl⟩ := h
        exact both_of (e_nt c.hK (hf _ _ h1)) (t_nt (ht _ _ h1)) (fun _ _ _ q => by cases q)
      | _ => cases h
    | Compare a ops bs p =>
      rcases ops with _ | ⟨op, _ | ⟨op', _ | ⟨op3, ops⟩⟩⟩ <;> rcases bs with _ | ⟨b, _ | ⟨b', _ | ⟨b3, bs⟩⟩⟩
      case cons.nil.cons.nil =>
        simp only [cp] at h
        split at h
        · rename_i hm
          split at h
          · rename_i o x y h1 h2 h3
            cases h
            obtain ⟨q1, q2⟩ := e_cmp (p := p) c.hK c.hu h1 hm (hf _ _ h2) (hf _ _ h3)
            exact both_of q1 q2 (fun _ _ _ q => by cases q)
          · cases h
        · cases h
      case cons.cons.nil.cons.cons.nil =>
        simp only [cp] at h
        split at h
        · rename_i hm
          split at h
          · rename_i o o' x y z h1 h2 h3 h4 h5
            cases h
            obtain ⟨q1, q2⟩ := e_chn (p := p) c.hK c.hu h1 h2 hm (hf _ _ h3) (hf _ _ h4) (hf _ _ h5)
            exact both_of q1 q2 (fun _ _ _ q => by cases q)
          · cases h
        · cases h
      all_goals (simp only [cp] at h; cases h)
    | BoolOp op vs p =>
      cases vs with
      | nil => cases op <;> (simp only [cp] at h; cases h)
      | cons a vs =>
        cases vs with
        | nil =>
          have h' : cp T N n B sc a = some m := by cases op <;> simpa only [cp] using h
          obtain ⟨q1, q2, _⟩ := ih X sc B E c a m h'
          cases op with
          | And =>
            have w := pw_and1 (pos := p) q2
            exact ⟨pe_one q1, w.pt, fun op vs p e => by cases e; exact w⟩
          | Or =>
            have w := pw_or1 (pos := p) q2
            exact ⟨pe_one q1, w.pt, fun op vs p e => by cases e; exact w⟩
        | cons b rest =>
          cases op with
          | And =>
            simp only [cp] at h
            split at h
            · rename_i x y h1 h2
              cases h
              obtain ⟨q1, _, q3⟩ := ih X sc B E c _ _ h2
              have w := w_an (p := p) (ht _ _ h1) (q3 _ _ _ rfl)
              exact ⟨e_an (hf _ _ h1) q1, w.pt, fun op vs p e => by cases e; exact w⟩
            · cases h
          | Or =>
            simp only [cp] at h
            split at h
            · rename_i x y h1 h2
              cases h
              obtain ⟨q1, _, q3⟩ := ih X sc B E c _ _ h2
              have w := w_or (p := p) (ht _ _ h1) (q3 _ _ _ rfl)
              exact ⟨e_or (hf _ _ h1) q1, w.pt, fun op vs p e => by cases e; exact w⟩
            · cases h
    | IfExp t a b p =>
      simp only [cp] at h
      split at h
      · rename_i x y z h1 h2 h3
        cases h
        exact both_of (e_ite (ht _ _ h1) (hf _ _ h2) (hf _ _ h3)) t_ite (fun _ _ _ q => by cases q)
      · cases h
    | Call fn as kws p =>
      cases kws with
      | cons _ _ => cases fn <;> (cases as <;> (simp only [cp] at h; cases h))
      | nil =>
        cases fn with
        | Name x px =>
          cases as with
          | nil =>
            simp only [cp] at h
            split at h
            · rename_i hg
              split at h
              · rename_i cl i hc
                cases h
                exact both_v c.hK (e_mk c hf hg hc rfl) (fun _ _ => rfl) (fun _ => rfl) (fun _ _ _ q => by cases q)
              · split at h
                · rename_i hq
                  rw [Bool.and_eq_true] at hq
                  cases h
                  exact both_v c.hK (e_cal0 c hg hq.1) (fun _ _ => rfl) (fun _ => rfl) (fun _ _ _ q => by cases q)
                · cases h
            · cases h
          | cons a as =>
            have fin : ∀ {m : Ex}, PE X (.Call (.Name x px) (a :: as) [] p) (tE K ca R G E m) → (∀ ρ S, ev R G m true ρ S = bnd (ev R G m false ρ S) fun d S => lf0 ((tru S d).map .bl) S) → Both K ca R G E X (.Call (.Name x px) (a :: as) [] p) m := fun q1 q2 =>
              both_v c.hK q1 q2 (fun _ => rfl) (fun _ _ _ q => by cases q)
            simp only [cp] at h
            split at h
            · rename_i hg
              split at h
              · rename_i cl i hc
                simp only [Option.map_eq_some_iff] at h
                obtain ⟨ms, h1, rfl⟩ := h
                exact fin (e_mk c hf hg hc h1) fun _ _ => rfl
              split at h
              · rename_i hc
                split at h
                · rename_i n0 es hdf
                  split at h
                  · simp only [Option.map_eq_some_iff] at h
                    obtain ⟨ms, h1, rfl⟩ := h
                    exact fin (e_cad c hf hg hc hdf h1) fun _ _ => rfl
                  · simp only [Option.map_eq_some_iff] at h
                    obtain ⟨ms, h1, rfl⟩ := h
                    exact fin (e_cal c hf hg hc h1) fun _ _ => rfl
                · simp only [Option.map_eq_some_iff] at h
                  obtain ⟨ms, h1, rfl⟩ := h
                  exact fin (e_cal c hf hg hc h1) fun _ _ => rfl
              · split at h
                · rename_i hbs
                  split at h
                  · rename_i hi
                    split at h
                    · rename_i t tp
                      split at h
                      · rename_i hgt
                        rw [Bool.and_eq_true] at hgt
                        split at h
                        · rename_i ty m' h1 h2
                          split at h
                          · rename_i hns
                            cases h
                            exact fin (e_isi c (hf _ _ h2) hns hi hg hbs hgt.1 hgt.2 h1) fun _ _ => rfl
                          · cases h
                        · cases h
                      · cases h
                    · cases h
                  · split at h
                    · rename_i d0 hz
                      simp only [Option.map_eq_some_iff] at h
                      obtain ⟨y, h1, rfl⟩ := h
                      unfold dvlOf at hz
                      split at hz
                      · split at hz
                        · rename_i hq
                          obtain ⟨q1, q2, q3, q4⟩ := hq
                          cases hz
                          exact fin (e_dvl c hg hbs q1 q2 q3 q4 (hf _ _ h1)) fun _ _ => rfl
                        · cases hz
                      · cases hz
                    split at h
                    · rename_i l hz
                      simp only [Option.map_eq_some_iff] at h
                      obtain ⟨ms, h1, rfl⟩ := h
                      unfold zipArgs at hz
                      split at hz
                      · split at hz
                        · rename_i hq
                          obtain ⟨q1, q2, q3, q4⟩ := hq
                          cases hz
                          exact fin (e_lz c hf hg hbs q1 q3 q4 q2 h1) fun _ _ => rfl
                        · cases hz
                      · cases hz
                    · split at h
                      · rename_i b ms h1 h2
                        cases h
                        exact fin (e_bi c hf hg hbs h2 h1) fun _ _ => rfl
                      · cases h
                · split at h
                  · rename_i hmt
                    split at h
                    · rename_i b ms h1 h2
                      cases h
                      exact fin (e_mb c hf hg hmt h2 h1) fun _ _ => rfl
                    · cases h
                  · cases h
            · cases h
        | Attribute o mn ap =>
          simp only [cp] at h
          split at h
          · rename_i kvs hdo
            split at h
            · rename_i hq
              simp only [Bool.and_eq_true, decide_eq_true_eq] at hq
              simp only [Option.map_eq_some_iff] at h
              obtain ⟨ms, h1, rfl⟩ := h
              unfold dictOf at hdo
              split at hdo
              · split at hdo
                · rename_i hg
                  obtain ⟨rfl, hg⟩ := hg
                  cases as with
                  | nil =>
                    cases h1
                    exact both_v c.hK ⟨fun pins s σ H Q I ⟨ρ, S, φ, r, re, rs, e1, go⟩ => by cases e1⟩ (fun _ _ => rfl) (fun _ => rfl) (fun _ _ _ q => by cases q)
                  | cons a as => exact both_v c.hK (e_dg c hf hg hdo hq.1 hq.2 h1) (fun _ _ => rfl) (fun _ => rfl) (fun _ _ _ q => by cases q)
                · cases hdo
              · cases hdo
            · cases h
          split at h
          · rename_i hq
            simp only [Bool.and_eq_true, decide_eq_true_eq] at hq
            split at h
            · rename_i cl i hm
              split at h
              · rename_i x xs h2 h3
                cases h
                exact both_v c.hK (e_met c hf hm (hf _ _ h2) h3 hq.1.1 hq.1.2 hq.2) (fun _ _ => rfl) (fun _ => rfl) (fun _ _ _ q => by cases q)
              · cases h
            split at h
            · rename_i hb
              obtain ⟨rfl, rfl⟩ := hb
              simp only [Option.map_eq_some_iff] at h
              obtain ⟨x, h1, rfl⟩ := h
              exact both_v c.hK (e_bits c (hf _ _ h1) hq.1.1 hq.1.2) (fun _ _ => rfl) (fun _ => rfl) (fun _ _ _ q => by cases q)
            split at h
            · rename_i kd x xs h1 h2 h3
              cases h
              exact both_v c.hK (e_mth c.hK hf h1 (hf _ _ h2) h3 hq.1.1 hq.1.2 hq.2) (fun _ _ => rfl) (fun _ => rfl) (fun _ _ _ q => by cases q)
            · cases h
          · cases h
        | _ => cases as <;> (simp only [cp] at h; cases h)
    | Subscript a b p =>
      have plain : ∀ {m}, (if revSl b then (cp T N n B sc a).map Ex.rvs else if noSlice b then match cp T N n B sc a, cp T N n B sc b with
          | some x, some y => some (Ex.idx x y)
          | _, _ => none
        else none) = some m → Both K ca R G E X (.Subscript a b p) m := fun h => by
        split at h
        · rename_i hr
          simp only [Option.map_eq_some_iff] at h
          obtain ⟨x, h1, rfl⟩ := h
          exact both_v c.hK (e_rvs c.hK hr (hf _ _ h1)) (fun _ _ => rfl) (fun _ => rfl) (fun _ _ _ q => by cases q)
        split at h
        · rename_i hn
          split at h
          · rename_i x y h1 h2
            cases h
            exact both_v c.hK (e_idx c.hK hn (hf _ _ h1) (hf _ _ h2)) (fun _ _ => rfl) (fun _ => rfl) (fun _ _ _ q => by cases q)
          · cases h
        · cases h
      cases b with
      | Slice lo hi st p2 =>
        cases st with
        | some _ => simp only [cp] at h; exact plain h
        | none =>
          simp only [cp] at h
          split at h
          · rename_i x l u h1 h2 h3
            cases h
            exact both_v c.hK (e_slc c.hK (hf _ _ h1) (po_ok hf h2) (po_ok hf h3)) (fun _ _ => rfl) (fun _ => rfl) (fun _ _ _ q => by cases q)
          · cases h
      | _ => simp only [cp] at h; exact plain h
    | Attribute o f p =>
      simp only [cp] at h
      split at h
      · rename_i hs
        split at h
        · rename_i cs x h1 h2
          cases h
          exact both_v c.hK (e_fld c hs h1 (hf _ _ h2)) (fun _ _ => rfl) (fun _ => rfl) (fun _ _ _ q => by cases q)
        · cases h
      · cases h
    | Dict ks vs p =>
      cases ks with
      | nil =>
        cases vs with
        | nil =>
          cases h
          exact both_v c.hK e_dn (fun _ _ => rfl) (fun _ => rfl) (fun _ _ _ q => by cases q)
        | cons _ _ => simp only [cp] at h; cases h
      | cons _ _ => simp only [cp] at h; cases h
    | Tuple es j p =>
      simp only [cp, Option.map_eq_some_iff] at h
      obtain ⟨ms, h1, rfl⟩ := h
      exact both_v c.hK (e_tup (es_ofS c.hK hf h1)) (fun _ _ => rfl) (fun _ => rfl) (fun _ _ _ q => by cases q)
    | List es p =>
      simp only [cp, Option.map_eq_some_iff] at h
      obtain ⟨ms, h1, rfl⟩ := h
      exact both_v c.hK (e_lst (es_of hf h1)) (fun _ _ => rfl) (fun _ => rfl) (fun _ _ _ q => by cases q)
    | ListComp elt gs scope p =>
      rcases gs with _ | ⟨⟨tg, it, ifs, as⟩, _ | ⟨g2, gs⟩⟩
      · simp only [cp] at h; cases h
      · simp only [cp] at h
        split at h
        · rename_i hb
          rw [Bool.and_eq_true, Bool.and_eq_true] at hb
          have h0 : as = 0 := of_decide_eq_true hb.2
          subst h0
          split at h
          · rename_i kd as' t m' fs h1 h2 h3 h4
            cases h
            obtain ⟨p1, p2, p3, p4⟩ := lc_parts (it := it) c n (fun X sc B E c e m q => And.intro (ih X sc B E c e m q).1 (ih X sc B E c e m q).2.1) hb.1.1 h2 h3 h4 (of_decide_eq_true hb.1.2)
            obtain ⟨i1, i2⟩ := i_ok (tg := tg) c hf h1
            have pe : PE X (.ListComp elt [⟨tg, it, ifs, 0⟩] scope p) (tE K ca R G E (.lc m' ((ownOf N tg).map (·.2)) t kd as' fs)) := (pe_lc (pos := p) c.calm (by rw [c.hN]; exact c.nd) i1 p1 p2 p3 p4 i2).imp fun σ H Q ⟨ρ, S, φ, r, re, rs, e1, go⟩ => lc_read (own_sub h2) re rs e1 go
            exact both_v c.hK pe (fun _ _ => rfl) (fun _ => rfl) (fun _ _ _ q => by cases q)
          · cases h
        · cases h
      · simp only [cp] at h; cases h
    | _ => cases h
end
end Mx
set_option Elab.async false
set_option linter.all false
set_option maxRecDepth 100000
set_option maxHeartbeats 8000000
/-! within an except suite -/
namespace Mx
open L2 PySem PySem.Spec PyProof.Rows
/-- what is read there: the heap stays as it is -/
structure XI (K : PySem.W.Frag) (ca : Nat → Addr) (a : Addr) (cls : Value) (d : Option Addr) (i : Option Nat) (yes : List Nat) (x : Exn) (φ : List Addr) (H : Hp) (σ : L2.St) : Prop where
  at_ : ∀ j, i = some j → j < σ.length → σ[j]? = some (some (.ref a))
  rx : RX K ca φ H x cls d
  yes : x.c ∈ yes
section
variable (K : PySem.W.Frag) (ca : Nat → Addr) (a : Addr) (cls : Value) (d : Option Addr) (i : Option Nat) (yes : List Nat)
def tH (m : Hx) : TE := fun σ H Q => ∃ ρ S φ x y, RE K φ H ρ σ ∧ RS K ca φ H S ∧ XI K ca a cls d i yes x φ H σ ∧ evH x m ρ S = some y ∧ ∀ v, RV K φ H y v → Q v H
def tHT (m : Hx) : TT := fun σ H Q => ∃ ρ S φ x b, RE K φ H ρ σ ∧ RS K ca φ H S ∧ XI K ca a cls d i yes x φ H σ ∧ evH x m ρ S = some (.bl b) ∧ Q b H
end
/-- the suite's context -/
structure CH (T : Tb) (N : List Str) (K : PySem.W.Frag) (ca : Nat → Addr) (X : Cx) (sc : Scope) (yes : List Nat) : Prop where
  hs : X.env.scope = sc
  hN : X.N = N
  hK : X.K = K
  hu : X.A.units + 100 < cLine
  xf : ∀ c ∈ yes, XfC K (ca c) ∧ ∀ f, T.xf.contains f = true → PySem.W.findIn K (.ref (ca c)) f = some none
section
variable {T : Tb} {N : List Str} {K : PySem.W.Frag} {ca : Nat → Addr} {X : Cx} {sc : Scope} {yes : List Nat} {a : Addr} {cls : Value} {d : Option Addr} {i : Option Nat} {n : Option Str} {oe : Obj} {pn : List (Addr × Obj)}
def HB (K : PySem.W.Frag) (ca : Nat → Addr) (a : Addr) (cls : Value) (d : Option Addr) (i : Option Nat) (yes : List Nat) (X : Cx) (e : Expr) (m : Hx) : Prop :=
  PE X e (tH K ca a cls d i yes m) ∧ (noIf e = true → PT X e (tHT K ca a cls d i yes m)) ∧ ∀ op vs p, e = .BoolOp op vs p → PW X e (tHT K ca a cls d i yes m)
theorem hb_v {X : Cx} (hK : X.K = K) {e : Expr} {m : Hx} (h1 : PE X e (tH K ca a cls d i yes m)) (he : ∀ whole, isTrue e X.env whole = (do let v ← whole; standAt e.pos; holding [v] (truthy v))) (h3 : ∀ op vs p, e ≠ .BoolOp op vs p) : HB K ca a cls d i yes X e m := by
  refine ⟨h1, fun _ => ?_, fun op vs p q => absurd q (h3 op vs p)⟩
  subst hK
  refine (pt_truth h1 he).imp fun σ H Q ⟨ρ, S, φ, x, b, re, rs, xi, e1, q⟩ => ⟨ρ, S, φ, x, _, re, rs, xi, e1, fun v rv => ?_⟩
  exact ⟨b, rs.tru rv rfl, q⟩
theorem h_vis (c : CH T N K ca X sc yes) {x : Str} (h : vis sc x = true) : Vis X.env.scope x ∧ (x == ("__debug__" : Str)) = false ∧ (x == ("__classdict__" : Str)) = false := by
  simp only [vis, Bool.and_eq_true, Bool.or_eq_true, decide_eq_true_eq, Bool.not_eq_true'] at h
  rw [c.hs]
  refine ⟨?_, h.1.2, h.2⟩
  rcases h.1.1 with (h | h) | h
  · exact .inl h
  · exact .inr (.inl h)
  · exact .inr (.inr h)
theorem h_cst {X : Cx} {e : Expr} {y : D} {v : V} (h : PE X e (tC v)) (hv : ∀ φ H, RV K φ H y v) : PE X e (tH K ca a cls d i yes (.cst y)) := h.imp fun σ H Q ⟨ρ, S, φ, x, y', re, rs, xi, e1, q⟩ => by
  cases e1
  exact q _ (hv _ _)
theorem rfs_get {φ : List Addr} {H : Hp} : ∀ {fs : List (Str × D)} {xs : List (Str × V)} {f : Str} {y : D}, RFs K φ H fs xs → fs.lookup f = some y → ∃ v, xs.lookup f = some v ∧ RV K φ H y v
  | [], _, _, _, _, h => by cases h
  | (f0, y0) :: fs, [], _, _, ⟨h1, _⟩, _ => by cases h1
  | (f0, y0) :: fs, (g0, v0) :: xs, f, y, ⟨h1, h2⟩, h => by
    simp only [List.map_cons, List.cons.injEq] at h1
    obtain ⟨e1, h1⟩ := h1
    subst e1
    cases h2 with
    | cons r t =>
      simp only [List.lookup] at h ⊢
      split at h
      · cases h
        exact ⟨v0, rfl, r⟩
      · exact rfs_get ⟨h1, t⟩ h
theorem h_ok (c : CH T N K ca X sc yes) (hz : Zc cls d oe) (hf : ∃ vs, oe.data = .fields vs) (hi : ∀ x, n = some x → i = slot N x ∧ i.isSome = true) : ∀ (k : Nat) (e : Expr) (m : Hx), cpH T N sc n k e = some m → HB K ca a cls d i yes (X.suite a ((a, oe) :: pn)) e m := by
  have hK : (X.suite a ((a, oe) :: pn)).K = K := c.hK
  have hN : (X.suite a ((a, oe) :: pn)).N = N := c.hN
  intro k
  induction k with
  | zero => intro e m h; cases h
  | succ k ih =>
    intro e m h
    cases e with
    | Name x p =>
      simp only [cpH] at h
      split at h
      · rename_i hv
        rw [Bool.and_eq_true] at hv
        simp only [Option.map_eq_some_iff] at h
        obtain ⟨j, h1, rfl⟩ := h
        obtain ⟨v1, v2, v3⟩ := h_vis c hv.1
        refine hb_v (X := X.suite a ((a, oe) :: pn)) hK ((pe_var (X := X.suite a ((a, oe) :: pn)) (i := j) (by rw [hN]; exact (slot_at h1).1) v1 v2 v3).imp fun σ H Q ⟨ρ, S, φ, x, y, re, rs, xi, e1, q⟩ => ?_) (fun _ => rfl) (fun _ _ _ q => by cases q)
        simp only [evH] at e1
        cases z : ρ[j]? with
        | none => rw [z] at e1; cases e1
        | some o =>
          rw [z] at e1
          cases o with
          | none => cases e1
          | some y' =>
            cases e1
            obtain ⟨v, hv, rv⟩ := re.2 j y z
            exact ⟨v, hv, q v rv⟩
      · cases h
    | Constant v j p =>
      cases v with
      | int i => cases h; exact hb_v hK (h_cst pe_int fun _ _ => .int i) (fun _ => rfl) (fun _ _ _ q => by cases q)
      | bool b => cases h; exact hb_v hK (h_cst pe_bl fun _ _ => .bl b) (fun _ => rfl) (fun _ _ _ q => by cases q)
      | str x => cases h; exact hb_v hK (h_cst pe_str fun _ _ => .str x) (fun _ => rfl) (fun _ _ _ q => by cases q)
      | none => cases h; exact hb_v hK (h_cst pe_non fun _ _ => .non) (fun _ => rfl) (fun _ _ _ q => by cases q)
      | _ => cases h
    | Attribute o f p =>
      cases o with
      | Name x px =>
        simp only [cpH] at h
        split at h
        · rename_i hv
          rw [Bool.and_eq_true, Bool.and_eq_true, decide_eq_true_eq] at hv
          cases h
          obtain ⟨v1, v2, v3⟩ := h_vis c hv.1.2
          obtain ⟨i1, i2⟩ := hi x hv.1.1
          obtain ⟨j, hj⟩ := Option.isSome_iff_exists.mp i2
          have hj' : slot N x = some j := by rw [← i1]; exact hj
          have hv1 := pe_var (X := X.suite a ((a, oe) :: pn)) (pos := px) (i := j) (by rw [hN]; exact (slot_at hj').1) v1 v2 v3
          by_cases hc : ∃ cc ∈ yes, cls = .ref (ca cc)
          · obtain ⟨cc, hcc, ecls⟩ := hc
            obtain ⟨xfc, xno⟩ := c.xf cc hcc
            have xfc' : XfC X.K (ca cc) := by rw [c.hK]; exact xfc
            have xno' : PySem.W.findIn X.K (.ref (ca cc)) f = some none := by rw [c.hK]; exact xno f hv.2
            refine hb_v (X := X.suite a ((a, oe) :: pn)) hK ⟨fun pins s σ H Q I ⟨ρ, S, φ, x, y, re, rs, xi, e1, q⟩ => (pe_xf (pos := p) xfc' xno' hz hf hv1).run pins s σ H Q I ?_⟩ (fun _ => rfl) (fun _ _ _ q => by cases q)
            have hlt : j < σ.length := by
              rw [I.len]
              exact (List.getElem?_eq_some_iff.mp (show (X.suite a ((a, oe) :: pn)).N[j]? = some _ by rw [hN]; exact (slot_at hj').1)).1
            refine ⟨.ref a, xi.at_ j hj hlt, rfl, ecls, ?_⟩
            obtain ⟨_, ⟨dx, xs, e2, e3, e4⟩ | ⟨_, e2⟩⟩ := xi.rx
            · obtain ⟨v, h5, h6⟩ := rfs_get e4 e1
              exact ⟨dx, xs, v, e2, e3, h5, q v h6⟩
            · simp only [evH, e2] at e1
              cases e1
          · refine ⟨⟨fun pins s σ H Q I ⟨ρ, S, φ, x, y, re, rs, xi, e1, q⟩ => absurd ⟨x.c, xi.yes, xi.rx.1⟩ hc⟩, fun _ => ⟨fun pins s σ H Q I ⟨ρ, S, φ, x, y, re, rs, xi, e1, q⟩ => absurd ⟨x.c, xi.yes, xi.rx.1⟩ hc⟩, fun _ _ _ q => by cases q⟩
        · cases h
      | _ => simp only [cpH] at h; cases h
    | Compare l ops rs p =>
      rcases ops with _ | ⟨op, _ | ⟨op2, ops⟩⟩
      · simp only [cpH] at h; cases h
      · rcases rs with _ | ⟨r, _ | ⟨r2, rs⟩⟩
        · simp only [cpH] at h; cases h
        · simp only [cpH] at h
          split at h
          · rename_i hm
            split at h
            · rename_i o y z h1 h2 h3
              cases h
              rw [cm_op h1] at hm ⊢
              obtain ⟨a1, _, _⟩ := ih _ _ h2
              obtain ⟨b1, _, _⟩ := ih _ _ h3
              have hu : (X.suite a ((a, oe) :: pn)).A.units + 100 < cLine := c.hu
              have key : ∀ {σ H} {Q : VK} {ρ S φ x y'}, RE K φ H ρ σ → RS K ca φ H S → XI K ca a cls d i yes x φ H σ → evH x (.cmp o y z) ρ S = some y' → (∀ v, RV K φ H y' v → Q v H) → tOp (rC K ca o) (tH K ca a cls d i yes y) (tH K ca a cls d i yes z) σ H Q := fun {σ H Q ρ S φ x y'} re rs xi e1 q => by
                simp only [evH] at e1
                split at e1
                · rename_i p' q' e2 e3
                  simp only [Option.map_eq_some_iff] at e1
                  obtain ⟨b, e4, rfl⟩ := e1
                  exact ⟨ρ, S, φ, x, _, re, rs, xi, e2, fun v rv => ⟨ρ, S, φ, x, _, re, rs, xi, e3, fun u ru => ⟨φ, S, _, _, b, rs, rv, ru, e4, q _ (.bl b)⟩⟩⟩
                · cases e1
              refine ⟨(pe_cmpR (cm2_ok (ca := ca) hK hu o) a1 b1 hm).imp fun σ H Q ⟨ρ, S, φ, x, y', re, rs, xi, e1, q⟩ => key re rs xi e1 q, fun _ => ?_, fun _ _ _ q => by cases q⟩
              exact (pt_cmpR (cm2_ok (ca := ca) hK hu o) a1 b1 hm).imp fun σ H Q ⟨ρ, S, φ, x, b, re, rs, xi, e1, q⟩ => key re rs xi e1 fun v rv => by cases rv; exact ⟨b, rfl, q⟩
            · cases h
          · cases h
        · simp only [cpH] at h; cases h
      · simp only [cpH] at h; cases h
    | UnaryOp op l p =>
      cases op with
      | USub =>
        simp only [cpH, Option.map_eq_some_iff] at h
        obtain ⟨y, h1, rfl⟩ := h
        refine hb_v hK ((pe_un un_neg (ih _ _ h1).1).imp fun σ H Q ⟨ρ, S, φ, x, y', re, rs, xi, e1, q⟩ => ?_) (fun _ => rfl) (fun _ _ _ q => by cases q)
        simp only [evH] at e1
        split at e1
        · rename_i j e2
          cases e1
          exact ⟨ρ, S, φ, x, _, re, rs, xi, e2, fun v rv => by cases rv; exact ⟨_, rfl, q _ (.int _)⟩⟩
        · cases e1
      | Not =>
        simp only [cpH] at h
        split at h
        rotate_left
        · cases h
        rename_i hni
        simp only [Option.map_eq_some_iff] at h
        obtain ⟨y, h1, rfl⟩ := h
        obtain ⟨a1, a2, _⟩ := ih _ _ h1
        refine ⟨(pe_notT a1).imp fun σ H Q ⟨ρ, S, φ, x, y', re, rs, xi, e1, q⟩ => ?_, fun _ => (pt_not (a2 hni)).imp fun σ H Q ⟨ρ, S, φ, x, b, re, rs, xi, e1, q⟩ => ?_, fun _ _ _ q => by cases q⟩
        · simp only [evH] at e1
          split at e1
          · rename_i b e2
            cases e1
            refine ⟨ρ, S, φ, x, _, re, rs, xi, e2, fun v rv => ⟨b, ?_, q _ (.bl _)⟩⟩
            rw [hK]
            exact rs.tru rv rfl
          · cases e1
        · simp only [evH] at e1
          split at e1
          · rename_i b' e2
            cases e1
            exact ⟨ρ, S, φ, x, _, re, rs, xi, e2, q⟩
          · cases e1
      | _ => simp only [cpH] at h; cases h
    | BoolOp op vs p =>
      cases vs with
      | nil => cases op <;> (simp only [cpH] at h; cases h)
      | cons l vs =>
        cases vs with
        | nil =>
          have h' : noIf l = true ∧ cpH T N sc n k l = some m := by
            cases op <;> (simp only [cpH] at h; split at h; exact ⟨by assumption, h⟩; cases h)
          obtain ⟨q1, q2', _⟩ := ih l m h'.2
          have q2 := q2' h'.1
          cases op with
          | And =>
            have w := pw_and1 (pos := p) q2
            exact ⟨pe_one q1, fun _ => w.pt, fun op vs p e => by cases e; exact w⟩
          | Or =>
            have w := pw_or1 (pos := p) q2
            exact ⟨pe_one q1, fun _ => w.pt, fun op vs p e => by cases e; exact w⟩
        | cons b rest =>
          cases op with
          | And =>
            simp only [cpH] at h
            split at h
            rotate_left
            · cases h
            rename_i hni
            split at h
            · rename_i y z h1 h2
              cases h
              obtain ⟨a1, a2', _⟩ := ih _ _ h1
              have a2 := a2' hni
              obtain ⟨q1, _, q3⟩ := ih _ _ h2
              have w : PW (X.suite a ((a, oe) :: pn)) (.BoolOp .And (l :: b :: rest) p) (tHT K ca a cls d i yes (.an y z)) := (pw_and a2 (q3 _ _ _ rfl)).imp fun σ H Q ⟨ρ, S, φ, x, b, re, rs, xi, e1, q⟩ => by
                simp only [evH] at e1
                split at e1
                · rename_i e2
                  exact ⟨ρ, S, φ, x, true, re, rs, xi, e2, iteT ⟨ρ, S, φ, x, b, re, rs, xi, e1, q⟩⟩
                · rename_i e2
                  cases e1
                  exact ⟨ρ, S, φ, x, false, re, rs, xi, e2, iteF q⟩
                · cases e1
              refine ⟨(pe_and a1 q1).imp fun σ H Q ⟨ρ, S, φ, x, y', re, rs, xi, e1, q⟩ => ?_, fun _ => w.pt, fun op vs p e => by cases e; exact w⟩
              simp only [evH] at e1
              split at e1
              · rename_i e2
                exact ⟨ρ, S, φ, x, _, re, rs, xi, e2, fun v rv => by cases rv; exact ⟨true, rfl, iteT ⟨ρ, S, φ, x, y', re, rs, xi, e1, q⟩⟩⟩
              · rename_i e2
                cases e1
                exact ⟨ρ, S, φ, x, _, re, rs, xi, e2, fun v rv => by cases rv; exact ⟨false, rfl, iteF (q _ (.bl false))⟩⟩
              · cases e1
            · cases h
          | Or =>
            simp only [cpH] at h
            split at h
            rotate_left
            · cases h
            rename_i hni
            split at h
            · rename_i y z h1 h2
              cases h
              obtain ⟨a1, a2', _⟩ := ih _ _ h1
              have a2 := a2' hni
              obtain ⟨q1, _, q3⟩ := ih _ _ h2
              have w : PW (X.suite a ((a, oe) :: pn)) (.BoolOp .Or (l :: b :: rest) p) (tHT K ca a cls d i yes (.or y z)) := (pw_or a2 (q3 _ _ _ rfl)).imp fun σ H Q ⟨ρ, S, φ, x, b, re, rs, xi, e1, q⟩ => by
                simp only [evH] at e1
                split at e1
                · rename_i e2
                  cases e1
                  exact ⟨ρ, S, φ, x, true, re, rs, xi, e2, iteT q⟩
                · rename_i e2
                  exact ⟨ρ, S, φ, x, false, re, rs, xi, e2, iteF ⟨ρ, S, φ, x, b, re, rs, xi, e1, q⟩⟩
                · cases e1
              refine ⟨(pe_or a1 q1).imp fun σ H Q ⟨ρ, S, φ, x, y', re, rs, xi, e1, q⟩ => ?_, fun _ => w.pt, fun op vs p e => by cases e; exact w⟩
              simp only [evH] at e1
              split at e1
              · rename_i e2
                cases e1
                exact ⟨ρ, S, φ, x, _, re, rs, xi, e2, fun v rv => by cases rv; exact ⟨true, rfl, iteT (q _ (.bl true))⟩⟩
              · rename_i e2
                exact ⟨ρ, S, φ, x, _, re, rs, xi, e2, fun v rv => by cases rv; exact ⟨false, rfl, iteF ⟨ρ, S, φ, x, y', re, rs, xi, e1, q⟩⟩⟩
              · cases e1
            · cases h
    | IfExp t l r p =>
      simp only [cpH] at h
      split at h
      rotate_left
      · cases h
      rename_i hni
      split at h
      · rename_i x0 y z h1 h2 h3
        cases h
        obtain ⟨_, t2, _⟩ := ih _ _ h1
        obtain ⟨l1, _, _⟩ := ih _ _ h2
        obtain ⟨r1, _, _⟩ := ih _ _ h3
        refine ⟨(pe_ifExp (t2 hni) l1 r1).imp fun σ H Q ⟨ρ, S, φ, x, y', re, rs, xi, e1, q⟩ => ?_, fun z => absurd z (by show ¬ (false = true); decide), fun _ _ _ q => by cases q⟩
        simp only [evH] at e1
        split at e1
        · rename_i e2
          exact ⟨ρ, S, φ, x, true, re, rs, xi, e2, iteT ⟨ρ, S, φ, x, y', re, rs, xi, e1, q⟩⟩
        · rename_i e2
          exact ⟨ρ, S, φ, x, false, re, rs, xi, e2, iteF ⟨ρ, S, φ, x, y', re, rs, xi, e1, q⟩⟩
        · cases e1
      · cases h
    | Subscript l r p =>
      simp only [cpH] at h
      split at h
      · rename_i hn
        split at h
        · rename_i y z h1 h2
          cases h
          refine hb_v hK ((pe_ix (ix_ok (ca := ca) hK) (ih _ _ h1).1 (ih _ _ h2).1 (plain_ix hn)).imp fun σ H Q ⟨ρ, S, φ, x, y', re, rs, xi, e1, q⟩ => ?_) (fun _ => rfl) (fun _ _ _ q => by cases q)
          simp only [evH] at e1
          split at e1
          · rename_i p' q' e2 e3
            exact ⟨ρ, S, φ, x, _, re, rs, xi, e2, fun v rv => ⟨ρ, S, φ, x, _, re, rs, xi, e3, fun u ru => ⟨φ, S, _, _, y', rs, rv, ru, e1, q⟩⟩⟩
          · cases e1
        · cases h
      · cases h
    | _ => simp only [cpH] at h; cases h
/-- the suite -/
def tHs (K : PySem.W.Frag) (ca : Nat → Addr) (a : Addr) (cls : Value) (d : Option Addr) (i : Option Nat) (yes : List Nat) (h : Hs) : TS := fun Z σ H => ∃ ρ S φ x f, RE K φ H ρ σ ∧ RS K ca φ H S ∧ XI K ca a cls d i yes x φ H σ ∧ exH x h ρ S = some f ∧ match f with
  | .nx => Z.nx σ H
  | .ret y => ∀ v, RV K φ H y v → Z.rt v H
  | _ => False
theorem h_ret {X : Cx} {e : Expr} {m : Hx} {p : Pos} (h : PE X e (tH K ca a cls d i yes m)) : PSs X [.Return (some e) p] (tHs K ca a cls d i yes (.ret m)) := (pss_cons (ps_ret h) pss_nil).imp fun Z σ H ⟨ρ, S, φ, x, f, re, rs, xi, e1, q⟩ => by
  simp only [exH, Option.map_eq_some_iff] at e1
  obtain ⟨y, e1, rfl⟩ := e1
  exact ⟨ρ, S, φ, x, y, re, rs, xi, e1, q⟩
theorem hs_ok (c : CH T N K ca X sc yes) (hz : Zc cls d oe) (hf : ∃ vs, oe.data = .fields vs) (hi : ∀ x, n = some x → i = slot N x ∧ i.isSome = true) : ∀ (l : List Stmt) (h : Hs), cpHs T N sc n 20 l = some h → PSs (X.suite a ((a, oe) :: pn)) l (tHs K ca a cls d i yes h)
  | [], h, e => by
    cases e
    exact pss_nil.imp fun Z σ H ⟨ρ, S, φ, x, f, re, rs, xi, e1, q⟩ => by
      cases e1
      exact q
  | s :: r, h, e => by
    unfold cpHs at e
    split at e
    · rename_i q; cases q
    · rename_i e0 p q
      obtain ⟨rfl, rfl⟩ := List.cons.inj q
      simp only [Option.map_eq_some_iff] at e
      obtain ⟨m, e1, rfl⟩ := e
      exact h_ret (h_ok c hz hf hi 20 _ _ e1).1
    · rename_i p q
      obtain ⟨rfl, rfl⟩ := List.cons.inj q
      cases e
      exact (pss_cons ps_retN pss_nil).imp fun Z σ H ⟨ρ, S, φ, x, f, re, rs, xi, e1, q⟩ => by
        cases e1
        exact q _ .non
    · rename_i c0 e0 p p2 r' q
      obtain ⟨rfl, rfl⟩ := List.cons.inj q
      split at e
      rotate_left
      · cases e
      rename_i hni
      split at e
      · rename_i x0 y0 z0 h1 h2 h3
        cases e
        have ih := hs_ok c hz hf hi r z0 h3
        refine (pss_cons (ps_if ((h_ok c hz hf hi 20 _ _ h1).2.1 hni) (h_ret (h_ok c hz hf hi 20 _ _ h2).1) pss_nil) ih).imp fun Z σ H ⟨ρ, S, φ, x, f, re, rs, xi, e1, q⟩ => ?_
        simp only [exH] at e1
        split at e1
        · rename_i e2
          exact ⟨ρ, S, φ, x, true, re, rs, xi, e2, iteT ⟨ρ, S, φ, x, f, re, rs, xi, e1, by
            simp only [Option.map_eq_some_iff] at e1
            obtain ⟨y, _, rfl⟩ := e1
            exact q⟩⟩
        · rename_i e2
          exact ⟨ρ, S, φ, x, false, re, rs, xi, e2, iteF ⟨ρ, S, φ, x, f, re, rs, xi, e1, q⟩⟩
        · cases e1
      · cases e
    · cases e
end
end Mx
set_option Elab.async false
set_option linter.all false
set_option maxRecDepth 100000
set_option maxHeartbeats 8000000
namespace Mx
open L2 PySem PySem.Spec PyProof.Rows
section
variable (K : PySem.W.Frag) (ca : Nat → Addr) (R : Nat → List D → Sto → Mo D) (G : List D) (w : Nat) (E : L2.St → XK)
def GoS (φ : List Addr) (H : Hp) (r : Rt) (Z : Ends) : Prop := match r with
  | .ok f ρ' S' => ∀ φ' H', Le φ H φ' H' → RS K ca φ' H' S' → match f with
    | .nx => ∀ σ', RE K φ' H' ρ' σ' → Z.nx σ' H'
    | .brk => ∀ σ', RE K φ' H' ρ' σ' → Z.bk σ' H'
    | .ct => ∀ σ', RE K φ' H' ρ' σ' → Z.ct σ' H'
    | .ret d => ∀ v, RV K φ' H' d v → Z.rt v H'
  | .er x ρ' S' => ∀ φ' H' c dd σ', Le φ H φ' H' → RS K ca φ' H' S' → RE K φ' H' ρ' σ' → RX K ca φ' H' x c dd → E σ' c dd H'
def tS (m : Sm) : TS := fun Z σ H => ∃ ρ S φ r, RE K φ H ρ σ ∧ RS K ca φ H S ∧ ex R G w m ρ S = some r ∧ GoS K ca E φ H r Z
def tSs (m : Sms) : TS := fun Z σ H => ∃ ρ S φ r, RE K φ H ρ σ ∧ RS K ca φ H S ∧ exs R G w m ρ S = some r ∧ GoS K ca E φ H r Z
end
section
variable {T : Tb} {N : List Str} {K : PySem.W.Frag} {ca : Nat → Addr} {R : Nat → List D → Sto → Mo D} {G : List D} {k w : Nat} {X : Cx} {sc : Scope} {B : Bool} {E : L2.St → XK}
variable {φ φ' : List Addr} {H H' : Hp} {S S' : Sto} {ρ : Rho} {σ : L2.St}
theorem GoS.mono {r : Rt} {Z : Ends} (h : GoS K ca E φ H r Z) (e : Le φ H φ' H') : GoS K ca E φ' H' r Z := by
  cases r with
  | ok f ρ' S' => exact fun φ2 H2 le => h φ2 H2 (e.trans le)
  | er x ρ' S' => exact fun φ2 H2 c dd σ' le => h φ2 H2 c dd σ' (e.trans le)
theorem sE_bnd {m : Ex} {f : D → Sto → MoS} {r : Rt} {Z : Ends} {Q1 : VK} (he : RE K φ H ρ σ) (hs : RS K ca φ H S) (h : bnS ρ (ev R G m false ρ S) f = some r) (go : GoS K ca E φ H r Z)
    (k : ∀ d S1 φ1 H1 v, Le φ H φ1 H1 → RS K ca φ1 H1 S1 → RV K φ1 H1 d v → f d S1 = some r → Q1 v H1) : tE K ca R G E m σ H Q1 := by
  cases q : ev R G m false ρ S with
  | none => rw [q] at h; cases h
  | some o =>
    rw [q] at h
    cases o with
    | ok d S1 => exact ⟨ρ, S, φ, .ok d S1, he, hs, q, fun φ1 H1 v le rs rv => k d S1 φ1 H1 v le rs rv h⟩
    | er x S1 => cases h; exact ⟨ρ, S, φ, .er x S1, he, hs, q, fun φ' H' c dd le rs rx => go φ' H' c dd σ le rs (he.mono le) rx⟩
theorem sT_bnd {m : Ex} {f : D → Sto → MoS} {r : Rt} {Z : Ends} {Q1 : Bool → Hp → Prop} (he : RE K φ H ρ σ) (hs : RS K ca φ H S) (h : bnS ρ (ev R G m true ρ S) f = some r) (go : GoS K ca E φ H r Z)
    (k : ∀ d S1 φ1 H1 v, Le φ H φ1 H1 → RS K ca φ1 H1 S1 → RV K φ1 H1 d v → f d S1 = some r → ∃ b, v = .bl b ∧ Q1 b H1) : tT K ca R G E m σ H Q1 := by
  cases q : ev R G m true ρ S with
  | none => rw [q] at h; cases h
  | some o =>
    rw [q] at h
    cases o with
    | ok d S1 => exact ⟨ρ, S, φ, .ok d S1, he, hs, q, fun φ1 H1 v le rs rv => k d S1 φ1 H1 v le rs rv h⟩
    | er x S1 => cases h; exact ⟨ρ, S, φ, .er x S1, he, hs, q, fun φ' H' c dd le rs rx => go φ' H' c dd σ le rs (he.mono le) rx⟩
theorem nxS_some {o : Option (Rho × Sto)} {r : Rt} (h : nxS o = some r) : ∃ ρ S, o = some (ρ, S) ∧ r = .ok .nx ρ S := by
  cases o with
  | none => cases h
  | some p => cases h; exact ⟨_, _, rfl, rfl⟩
theorem GoS.here {Z : Ends} (go : GoS K ca E φ H (.ok .nx ρ S) Z) (rs : RS K ca φ H S) (re : RE K φ H ρ σ) : Z.nx σ H := go φ H (Le.refl _ _) rs σ re
/-! ### small statements -/
theorem s_pass {p : Pos} : PS X (.Pass p) (tS K ca R G w E .pass) := ps_pass.imp fun Z σ H ⟨ρ, S, φ, r, re, rs, e1, go⟩ => by
  cases e1
  exact go.here rs re
theorem s_brk {p : Pos} : PS X (.Break p) (tS K ca R G w E .brk) := ps_break.imp fun Z σ H ⟨ρ, S, φ, r, re, rs, e1, go⟩ => by
  cases e1
  exact go φ H (Le.refl _ _) rs σ re
theorem s_cnt {p : Pos} : PS X (.Continue p) (tS K ca R G w E .cnt) := ps_continue.imp fun Z σ H ⟨ρ, S, φ, r, re, rs, e1, go⟩ => by
  cases e1
  exact go φ H (Le.refl _ _) rs σ re
theorem swap_none {e : Expr} (h : noComp e = true) (t : Option Expr) (l : Nat) (env : PySem.Env) : swapsWith e t l env = pure false := by
  cases e <;> first | rfl | cases h
theorem s_expr {e : Expr} {m : Ex} {p : Pos} (hn : noComp e = true) (h : PE X e (tE K ca R G E m)) : PS X (.Expr e p) (tS K ca R G w E (.expr m)) := (ps_expr h (swap_none hn _ _ _)).imp fun Z σ H ⟨ρ, S, φ, r, re, rs, e1, go⟩ => by
  refine sE_bnd re rs e1 go fun d S1 φ1 H1 v le1 rs1 rv1 e2 => ?_
  cases e2
  exact (go.mono le1).here rs1 (re.mono le1)
theorem s_ret {e : Expr} {m : Ex} {p : Pos} (h : PE X e (tE K ca R G E m)) : PS X (.Return (some e) p) (tS K ca R G w E (.ret m)) := (ps_ret h).imp fun Z σ H ⟨ρ, S, φ, r, re, rs, e1, go⟩ => by
  refine sE_bnd re rs e1 go fun d S1 φ1 H1 v le1 rs1 rv1 e2 => ?_
  cases e2
  exact go φ1 H1 le1 rs1 v rv1
theorem s_retn {p : Pos} : PS X (.Return none p) (tS K ca R G w E .retn) := ps_retN.imp fun Z σ H ⟨ρ, S, φ, r, re, rs, e1, go⟩ => by
  cases e1
  exact go φ H (Le.refl _ _) rs .non .non
/-! ### stores -/
theorem asg_read {t : Tg} {m : Ex} {Z : Ends} {r : Rt} (re : RE K φ H ρ σ) (rs : RS K ca φ H S) (e1 : ex R G w (.asg t m) ρ S = some r) (go : GoS K ca E φ H r Z) : tAsg (tE K ca R G E m) (gT K t) Z σ H := by
  refine sE_bnd re rs e1 go fun d S1 φ1 H1 v le1 rs1 rv1 e2 => ?_
  obtain ⟨ρ2, S2, e3, rfl⟩ := nxS_some e2
  simp only [Option.map_eq_some_iff, Prod.mk.injEq] at e3
  obtain ⟨ρ3, e4, rfl, rfl⟩ := e3
  exact g_read e4 (re.mono le1) rv1 fun σ1 re1 _ => (go.mono le1).here rs1 re1
theorem s_asgT (c : CK T N K ca R G k X sc false E) {e : Expr} {ts : List Expr} {n : Nat} {q p : Pos} {m : Ex} {t : Tg} (h1 : noTuple e = true) (h2 : noComp e = true) (ht : cpT N false sc (.Tuple ts n q) = some t) (h : PE X e (tE K ca R G E m)) :
    PS X (.Assign [.Tuple ts n q] e p) (tS K ca R G w E (.asg t m)) := by
  have hw : swappedStores [.Tuple ts n q] e X.env = pure none := by
    cases e <;> first | rfl | cases h1
  exact (ps_asg h (g_ok c ht) (swap_none h2 (some (.Tuple ts n q)) p.line X.env) hw).imp fun Z σ H ⟨ρ, S, φ, r, re, rs, e1, go⟩ => asg_read re rs e1 go
theorem s_asg (c : CK T N K ca R G k X sc false E) {e : Expr} {x : Str} {q p : Pos} {m : Ex} {i : Nat} (hs : swapsWith e (some (.Name x q)) p.line X.env = pure false) (hl : loc false sc x = true) (hi : slot N x = some i) (h : PE X e (tE K ca R G E m)) :
    PS X (.Assign [.Name x q] e p) (tS K ca R G w E (.asg (.nm i) m)) := by
  have z := loc_ok c hl
  exact (ps_set (by rw [c.hN]; exact c.nd) (by rw [c.hN]; exact (slot_at hi).1) z.1 h hs z.2).imp fun Z σ H ⟨ρ, S, φ, r, re, rs, e1, go⟩ => asg_read (t := .nm i) re rs e1 go
theorem swap_lc (c : CK T N K ca R G k X sc false E) (elt : Expr) (gs : List Comprehension) (scope : Scope) (pos p : Pos) (x : Str) (l : Nat) :
    swapsWith (.ListComp elt gs scope pos) (some (.Name x p)) l X.env = pure (swB sc (.ListComp elt gs scope pos) x p) := by
  have k1 : X.env.blockKind = .function := by unfold PySem.Env.blockKind; rw [c.hs, c.knd]; rfl
  have k2 : X.env.kindOf x = sc.names.lookup x := by unfold PySem.Env.kindOf; rw [c.hs]
  unfold swapsWith swB
  simp only [k1, k2, Expr.pos]
  have e1 : ((ScopeKind.function == ScopeKind.function) : Bool) = true := by decide
  have e2 : (sc.names.lookup x == some NameKind.local) = decide (sc.names.lookup x = some .local) := by
    rw [Bool.eq_iff_iff]
    simp
  rw [e1, e2, Bool.true_and]
theorem s_asgN (c : CK T N K ca R G k X sc false E) (n : Nat) {e : Expr} {x : Str} {q p : Pos} {m : Ex} {t : Tg} (ht : cpT N false sc (.Name x q) = some t) (h : cp T N n false sc e = some m) :
    PS X (.Assign [.Name x q] e p) (tS K ca R G w E (.asg t m)) := by
  simp only [cpT] at ht
  split at ht
  · rename_i hl
    simp only [Option.map_eq_some_iff] at ht
    obtain ⟨i, hi, rfl⟩ := ht
    have pe := (cp_ok n X sc false E c e m h).1
    by_cases hn : noComp e = true
    · exact s_asg c (swap_none hn _ _ _) hl hi pe
    · cases e with
      | ListComp elt gs scope pos =>
        by_cases hw : swB sc (.ListComp elt gs scope pos) x q = true
        · have hs := (swap_lc c elt gs scope pos q x p.line).trans (by rw [hw])
          have hyl : X.env.scope.names.lookup x = some .local := by
            rw [c.hs]
            simp only [swB, Bool.and_eq_true, decide_eq_true_eq] at hw
            exact hw.1.1
          cases n with
          | zero => cases h
          | succ n =>
            rcases gs with _ | ⟨⟨tg, it, ifs, as⟩, _ | ⟨g2, gs⟩⟩
            · simp only [cp] at h; cases h
            · simp only [cp] at h
              split at h
              · rename_i hb
                rw [Bool.and_eq_true, Bool.and_eq_true] at hb
                have h0 : as = 0 := of_decide_eq_true hb.2
                subst h0
                split at h
                · rename_i kd as' t m' fs h1 h2 h3 h4
                  cases h
                  obtain ⟨p1, p2, p3, p4⟩ := lc_parts (it := it) c n (fun X sc B E c e m q => And.intro (cp_ok n X sc B E c e m q).1 (cp_ok n X sc B E c e m q).2.1) hb.1.1 h2 h3 h4 (of_decide_eq_true hb.1.2)
                  obtain ⟨i1, i2⟩ := i_ok (tg := tg) c (fun e m q => (cp_ok n X sc false E c e m q).1) h1
                  refine (ps_setLc c.calm (by rw [c.hN]; exact c.nd) (by rw [c.hN]; exact (slot_at hi).1) hyl hs i1 p1 p2 p3 p4 i2).imp fun Z σ H ⟨ρ, S, φ, r, re, rs, e1, go⟩ => ?_
                  -- the value, then the store
                  have e2 : bnS ρ (ev R G (.lc m' ((ownOf N tg).map (·.2)) t kd as' fs) false ρ S) (fun d S1 => nxS ((asgT (.nm i) d ρ).map fun ρ1 => (ρ1, S1))) = some r := e1
                  cases q1 : ev R G (.lc m' ((ownOf N tg).map (·.2)) t kd as' fs) false ρ S with
                  | none => rw [q1] at e2; cases e2
                  | some o =>
                    rw [q1] at e2
                    refine lc_read (r := o) (E := E) (own_sub h2) re rs q1 ?_
                    cases o with
                    | er x S1 => cases e2; exact fun φ' H' c dd le rs rx => go φ' H' c dd σ le rs (re.mono le) rx
                    | ok d S1 =>
                      cases e2
                      exact fun φ1 H1 v le1 rs1 rv1 => (go.mono le1).here rs1 ((re.mono le1).set i rv1)
                · cases h
              · cases h
            · simp only [cp] at h; cases h
        · have hs := (swap_lc c elt gs scope pos q x p.line).trans (by rw [Bool.eq_false_iff.mpr hw])
          exact s_asg c hs hl hi pe
      | SetComp _ _ _ _ => cases n <;> (simp only [cp] at h; cases h)
      | DictComp _ _ _ _ _ => cases n <;> (simp only [cp] at h; cases h)
      | _ => exact absurd rfl hn
  · cases ht
theorem s_seti {o i e : Expr} {x y z : Ex} {q p : Pos} (h1 : noSlice i = true) (h2 : noComp e = true) (ho : PE X o (tE K ca R G E x)) (hi : PE X i (tE K ca R G E y)) (he : PE X e (tE K ca R G E z)) :
    PS X (.Assign [.Subscript o i q] e p) (tS K ca R G w E (.seti x y z)) := by
  have pg : PG X (.Subscript o i q) (gSub (tE K ca R G E x) (tE K ca R G E y) (rSetM K ca)) := pg_sub ho hi set_ok (by intro v; cases i <;> first | rfl | cases h1)
  have hw : swappedStores [.Subscript o i q] e X.env = pure none := by cases e <;> rfl
  refine (ps_asg he pg (swap_none h2 (some (.Subscript o i q)) p.line X.env) hw).imp fun Z σ H ⟨ρ, S, φ, r, re, rs, e1, go⟩ => ?_
  refine sE_bnd re rs e1 go fun d1 S1 φ1 H1 v1 le1 rs1 rv1 e2 => ?_
  refine sE_bnd (re.mono le1) rs1 e2 (go.mono le1) fun d2 S2 φ2 H2 v2 le2 rs2 rv2 e3 => ?_
  refine sE_bnd (re.mono (le1.trans le2)) rs2 e3 (go.mono (le1.trans le2)) fun d3 S3 φ3 H3 v3 le3 rs3 rv3 e4 => ?_
  obtain ⟨ρ2, S4, e5, rfl⟩ := nxS_some e4
  simp only [Option.map_eq_some_iff, Prod.mk.injEq] at e5
  obtain ⟨S5, e6, rfl, rfl⟩ := e5
  have le := le1.trans (le2.trans le3)
  exact ⟨φ3, S3, d2, d3, d1, S5, rs3, rv2.mono le3, rv3, (rv1.mono le2).mono le3, e6, fun H' le4 rs4 => (go.mono (le.trans le4)).here rs4 (re.mono (le.trans le4))⟩
theorem s_aug (c : CK T N K ca R G k X sc false E) {x : Str} {op : Operator} {o : B2} {e : Expr} {m : Ex} {i : Nat} {q p : Pos} (hl : loc false sc x = true) (hi : slot N x = some i) (ho : auOf op = some o) (he : PE X e (tE K ca R G E m)) :
    PS X (.AugAssign (.Name x q) op e p) (tS K ca R G w E (.aug i o m)) := by
  have z := loc_ok c hl
  have nd : X.N.Nodup := by rw [c.hN]; exact c.nd
  have at_ : X.N[i]? = some x := by rw [c.hN]; exact (slot_at hi).1
  have read : ∀ (f : Int → Int → Int), (∀ S a b d, aug o S a b = some d → ∃ x y, a = .int x ∧ b = .int y ∧ d = .int (f x y)) → ∀ Z σ H, tS K ca R G w E (.aug i o m) Z σ H → tAug i (tE K ca R G E m) (ipI f) Z σ H := by
    intro f hf Z σ H ⟨ρ, S, φ, r, re, rs, e1, go⟩
    simp only [ex] at e1
    split at e1
    · rename_i d0 hd0
      obtain ⟨v0, hv0, rv0⟩ := re.2 i d0 hd0
      refine ⟨v0, hv0, sE_bnd re rs e1 go fun d1 S1 φ1 H1 v1 le1 rs1 rv1 e2 => ?_⟩
      obtain ⟨ρ2, S4, e5, rfl⟩ := nxS_some e2
      simp only [Option.map_eq_some_iff, Prod.mk.injEq] at e5
      obtain ⟨d2, e6, rfl, rfl⟩ := e5
      obtain ⟨a, b, rfl, rfl, rfl⟩ := hf _ _ _ _ e6
      cases rv0
      cases rv1
      exact ⟨a, b, rfl, rfl, (go.mono le1).here rs1 ((re.mono le1).set i (.int _))⟩
    · cases e1
  cases op <;> cases ho
  · exact (ps_aug nd at_ z.1 he ip_add z.2).imp (read _ fun S a b d h => by
      unfold aug at h
      split at h
      · cases h; exact ⟨_, _, rfl, rfl, rfl⟩
      · cases h)
  · exact (ps_aug nd at_ z.1 he ip_sub z.2).imp (read _ fun S a b d h => by
      unfold aug at h
      split at h
      · cases h; exact ⟨_, _, rfl, rfl, rfl⟩
      · cases h)
theorem s_agi (hK : X.K = K) {o i e : Expr} {op : Operator} {x y m : Ex} {b : B2} {q p : Pos} (h1 : noSlice i = true) (hb : auOf op = some b) (ho : PE X o (tE K ca R G E x)) (hi : PE X i (tE K ca R G E y)) (he : PE X e (tE K ca R G E m)) :
    PS X (.AugAssign (.Subscript o i q) op e p) (tS K ca R G w E (.agi x y b m)) := by
  have ha : ∀ ov iv new, augStore i ov iv new = (do holding [new, ov, iv] (setItem ov iv new); release [new, ov, iv] []; pure .next) := by
    intro ov iv new
    cases i <;> first | rfl | cases h1
  have read : ∀ (f : Int → Int → Int), (∀ S a b' d, aug b S a b' = some d → ∃ x y, a = .int x ∧ b' = .int y ∧ d = .int (f x y)) → ∀ Z σ H, tS K ca R G w E (.agi x y b m) Z σ H → tAugS (tE K ca R G E x) (tE K ca R G E y) (tE K ca R G E m) (rGetM K ca) (ipI f) (rSetM K ca) Z σ H := by
    intro f hf Z σ H ⟨ρ, S, φ, r, re, rs, e1, go⟩
    simp only [ex] at e1
    refine sE_bnd re rs e1 go fun d1 S1 φ1 H1 v1 le1 rs1 rv1 e2 => ?_
    refine sE_bnd (re.mono le1) rs1 e2 (go.mono le1) fun d2 S2 φ2 H2 v2 le2 rs2 rv2 e3 => ?_
    split at e3
    · rename_i z hz
      refine ⟨φ2, S2, d1, d2, z, rs2, rv1.mono le2, rv2, hz, fun vz rz => ?_⟩
      refine sE_bnd (re.mono (le1.trans le2)) rs2 e3 (go.mono (le1.trans le2)) fun d3 S3 φ3 H3 v3 le3 rs3 rv3 e4 => ?_
      obtain ⟨ρ2, S4, e5, rfl⟩ := nxS_some e4
      simp only [Option.bind_eq_some_iff, Option.map_eq_some_iff, Prod.mk.injEq] at e5
      obtain ⟨u, e6, S5, e7, rfl, rfl⟩ := e5
      obtain ⟨a, c, rfl, rfl, rfl⟩ := hf _ _ _ _ e6
      cases rz
      cases rv3
      have le := le1.trans (le2.trans le3)
      exact ⟨a, c, rfl, rfl, φ3, S3, d1, d2, _, S5, rs3, rv1.mono (le2.trans le3), rv2.mono le3, .int _, e7, fun H' le4 rs4 => (go.mono (le.trans le4)).here rs4 (re.mono (le.trans le4))⟩
    · cases e3
  cases op <;> cases hb
  · exact (ps_augS ho hi (get_ok hK) he ip_add set_ok ha).imp (read _ fun S a b d h => by
      unfold aug at h
      split at h
      · cases h; exact ⟨_, _, rfl, rfl, rfl⟩
      · cases h)
  · exact (ps_augS ho hi (get_ok hK) he ip_sub set_ok ha).imp (read _ fun S a b d h => by
      unfold aug at h
      split at h
      · cases h; exact ⟨_, _, rfl, rfl, rfl⟩
      · cases h)
/-! ### e.f = .., e.f += .. -/
theorem sfl1_ins {S S' : Sto} {cs : List Nat} {f : Str} {x v : D} (h : sfl1 cs f S x v = some S') : ∃ i c fs, x = .ref i ∧ S[i]? = some (.ins c fs) ∧ c ∈ cs ∧ fs.length < 1000 ∧ S' = S.set i (.ins c (putD f v fs)) := by
  cases x with
  | ref i =>
    simp only [sfl1] at h
    split at h
    · rename_i c fs q
      split at h
      · rename_i hc
        cases h
        exact ⟨i, c, fs, rfl, insOf_at q, by simpa using hc.1, hc.2, rfl⟩
      · cases h
    · cases h
  | _ => cases h
theorem RFs.mono {φ φ' : List Addr} {H H' : Hp} {fs : List (Str × D)} {xs : List (Str × V)} (h : RFs K φ H fs xs) (e : Le φ H φ' H') : RFs K φ' H' fs xs := ⟨h.1, h.2.mono e⟩
theorem put_ins {φ : List Addr} {H : Hp} {S : Sto} {i c : Nat} {fs : List (Str × D)} {xs : List (Str × V)} {a dx : Addr} {f : Str} {d : D} {v : V} (rs : RS K ca φ H S) (e : S[i]? = some (.ins c fs)) (ha : φ[i]? = some a) (x1 : H a = some (.ins (ca c) dx xs)) (x2 : RFs K φ H fs xs) (rv : RV K φ H d v) :
    Le φ H φ (upd H a (.ins (ca c) dx (putF f v xs))) ∧ RS K ca φ (upd H a (.ins (ca c) dx (putF f v xs))) (S.set i (.ins c (putD f d fs))) := by
  have le : Le φ H φ (upd H a (.ins (ca c) dx (putF f v xs))) := Le.mutO x1 rfl
  exact ⟨le, rs.putO e rfl ha x1 rfl rfl ⟨dx, _, upd_same, RFs.put (rv.mono le) (RFs.mono x2 le)⟩⟩
theorem s_sfl (c : CK T N K ca R G k X sc false E) {o e : Expr} {f : Str} {q p : Pos} {x z : Ex} {cs : List Nat} (h1 : T.fd.lookup f = some cs) (h2 : noComp e = true) (ho : PE X o (tE K ca R G E x)) (he : PE X e (tE K ca R G E z)) :
    PS X (.Assign [.Attribute o f q] e p) (tS K ca R G w E (.sfl x f cs z)) := by
  refine (ps_fld ho he (swap_none h2 _ _ _)).imp fun Z σ H ⟨ρ, S, φ, r, re, rs, e1, go⟩ => ?_
  refine sE_bnd re rs e1 go fun d1 S1 φ1 H1 v1 le1 rs1 rv1 e2 => ?_
  refine sE_bnd (re.mono le1) rs1 e2 (go.mono le1) fun d2 S2 φ2 H2 v2 le2 rs2 rv2 e3 => ?_
  obtain ⟨ρ2, S4, e5, rfl⟩ := nxS_some e3
  simp only [Option.map_eq_some_iff, Prod.mk.injEq] at e5
  obtain ⟨S5, e6, rfl, rfl⟩ := e5
  obtain ⟨i, cl, fs, rfl, e7, e8, e9, rfl⟩ := sfl1_ins e6
  cases rv2 with
  | ref ha =>
    obtain ⟨dx, xs, x1, x2⟩ := rs2.ob _ _ _ e7 ha
    obtain ⟨z1, z2⟩ := c.fds f cs h1 cl e8
    obtain ⟨le3, rs3⟩ := put_ins (f := f) rs2 e7 ha x1 x2 (rv1.mono le2)
    have le := le1.trans (le2.trans le3)
    exact ⟨_, _, dx, xs, rfl, x1, z1, z2, by rw [← x2.len]; exact e9, (go.mono le).here rs3 (re.mono le)⟩
theorem s_afl (c : CK T N K ca R G k X sc false E) {o e : Expr} {op : Operator} {f : Str} {q p : Pos} {x m : Ex} {b : B2} {cl : Nat} (h1 : T.fd.lookup f = some [cl]) (hb : auOf op = some b) (ho : PE X o (tE K ca R G E x)) (he : PE X e (tE K ca R G E m)) :
    PS X (.AugAssign (.Attribute o f q) op e p) (tS K ca R G w E (.afl x f cl b m)) := by
  have read : ∀ (g : Int → Int → Int) (rd : V → V → Hp → VK → Prop), (∀ i j H Q, Q (.int (g i j)) H → rd (.int i) (.int j) H Q) → (∀ S a b' d, aug b S a b' = some d → ∃ x y, a = .int x ∧ b' = .int y ∧ d = .int (g x y)) →
      ∀ Z σ H, tS K ca R G w E (.afl x f cl b m) Z σ H → sFldAug X.K (tE K ca R G E x) (tE K ca R G E m) rd f Z σ H := by
    intro g rd hrd hg Z σ H ⟨ρ, S, φ, r, re, rs, e1, go⟩
    simp only [ex] at e1
    refine sE_bnd re rs e1 go fun d1 S1 φ1 H1 v1 le1 rs1 rv1 e2 => ?_
    split at e2
    · rename_i z hz
      obtain ⟨i, c1, fs, rfl, e4, e5, e6⟩ := fld1_ins hz
      have ec : c1 = cl := by simpa using e5
      subst ec
      have rv1' := rv1
      cases rv1 with
      | ref ha =>
        obtain ⟨dx, xs, x1, x2⟩ := rs1.ob _ _ _ e4 ha
        obtain ⟨v, y1, y2⟩ := x2.get e6
        obtain ⟨z1, z2⟩ := c.fds f _ h1 c1 (by simp)
        refine ⟨_, _, dx, xs, v, rfl, x1, z1, z2, y1, sE_bnd (re.mono le1) rs1 e2 (go.mono le1) fun d3 S3 φ3 H3 v3 le3 rs3 rv3 e7 => ?_⟩
        obtain ⟨ρ2, S4, e8, rfl⟩ := nxS_some e7
        simp only [Option.bind_eq_some_iff, Option.map_eq_some_iff, Prod.mk.injEq] at e8
        obtain ⟨u, e9, S5, e10, rfl, rfl⟩ := e8
        obtain ⟨a, b', rfl, rfl, rfl⟩ := hg _ _ _ _ e9
        cases y2
        cases rv3
        obtain ⟨i2, c2, fs2, e11, e12, e13, e14, rfl⟩ := sfl1_ins e10
        cases e11
        have ec2 : c2 = c1 := by simpa using e13
        subst ec2
        obtain ⟨dx3, xs3, x3, x4⟩ := rs3.ob _ _ _ e12 (le3.get ha)
        obtain ⟨le4, rs4⟩ := put_ins (f := f) rs3 e12 (le3.get ha) x3 x4 (.int (g a b'))
        have le := le1.trans (le3.trans le4)
        exact hrd _ _ _ _ ⟨dx3, xs3, x3, by rw [← x4.len]; exact e14, (go.mono le).here rs4 (re.mono le)⟩
    · cases e2
  cases op <;> cases hb
  · exact (ps_fldaug ho he in_add).imp (read (· + ·) _ (fun i j H Q q => ⟨i, j, rfl, rfl, q⟩) fun S a b d h => by
      unfold aug at h
      split at h
      · cases h; exact ⟨_, _, rfl, rfl, rfl⟩
      · cases h)
  · exact (ps_fldaug ho he in_sub).imp (read (· - ·) _ (fun i j H Q q => ⟨i, j, rfl, rfl, q⟩) fun S a b d h => by
      unfold aug at h
      split at h
      · cases h; exact ⟨_, _, rfl, rfl, rfl⟩
      · cases h)
/-! ### d[tuple(l)] = v -/
theorem inl_inj {a b : List Int} (h : (a.map Sum.inl : List Key) = b.map Sum.inl) : a = b := by
  induction a generalizing b with
  | nil => cases b with
    | nil => rfl
    | cons _ _ => cases h
  | cons x a ih => cases b with
    | nil => cases h
    | cons y b =>
      simp only [List.map_cons, List.cons.injEq, Sum.inl.injEq] at h
      rw [h.1, ih h.2]
theorem RQs.go {φ : List Addr} {H : Hp} {k : List Int} {d : D} {v : V} (rv : RV K φ H d v) : ∀ {kvs : List (List Int × D)} {xs : List (List Key × V)}, xs.map (·.1) = kvs.map (fun p => p.1.map Sum.inl) → RVs K φ H (kvs.map (·.2)) (xs.map (·.2)) →
    (xs.map fun kv => if kv.1 = k.map Sum.inl then (kv.1, v) else kv).map (·.1) = (kvs.map fun p => if p.1 = k then (p.1, d) else p).map (fun p => p.1.map Sum.inl) ∧ RVs K φ H ((kvs.map fun p => if p.1 = k then (p.1, d) else p).map (·.2)) ((xs.map fun kv => if kv.1 = k.map Sum.inl then (kv.1, v) else kv).map (·.2))
  | [], [], _, _ => ⟨rfl, .nil⟩
  | [], _ :: _, h1, _ => by cases h1
  | _ :: _, [], h1, _ => by cases h1
  | p :: kvs, q :: xs, h1, h2 => by
    simp only [List.map_cons, List.cons.injEq] at h1 h2
    cases h2 with
    | cons r rs =>
      have e : (q.1 = k.map Sum.inl) ↔ p.1 = k := by rw [h1.1]; exact ⟨inl_inj, fun e => by rw [e]⟩
      obtain ⟨i1, i2⟩ := RQs.go rv (kvs := kvs) (xs := xs) h1.2 rs
      simp only [List.map_cons, List.cons.injEq]
      by_cases z : p.1 = k
      · rw [if_pos z, if_pos (e.mpr z)]
        exact ⟨⟨h1.1, i1⟩, .cons rv i2⟩
      · rw [if_neg z, if_neg fun q => z (e.mp q)]
        exact ⟨⟨h1.1, i1⟩, .cons r i2⟩
theorem RQs.put {φ : List Addr} {H : Hp} {k : List Int} {d : D} {v : V} (rv : RV K φ H d v) {kvs : List (List Int × D)} {xs : List (List Key × V)} (h1 : xs.map (·.1) = kvs.map (fun p => p.1.map Sum.inl)) (h2 : RVs K φ H (kvs.map (·.2)) (xs.map (·.2))) :
    (putK xs (k.map Sum.inl) v).map (·.1) = (putQ kvs k d).map (fun p => p.1.map Sum.inl) ∧ RVs K φ H ((putQ kvs k d).map (·.2)) ((putK xs (k.map Sum.inl) v).map (·.2)) := by
  have any : (xs.any fun kv => decide (kv.1 = k.map Sum.inl)) = kvs.any fun p => decide (p.1 = k) := by
    clear h2
    induction kvs generalizing xs with
    | nil => cases xs with
      | nil => rfl
      | cons _ _ => cases h1
    | cons p kvs ih => cases xs with
      | nil => cases h1
      | cons q xs =>
        simp only [List.map_cons, List.cons.injEq] at h1
        simp only [List.any_cons, ih h1.2, h1.1]
        congr 1
        exact decide_eq_decide.mpr ⟨inl_inj, fun e => by rw [e]⟩
  unfold putK putQ
  rw [any]
  split
  · exact RQs.go rv h1 h2
  · simp only [List.map_append, List.map_cons, List.map_nil, h1, true_and]
    exact h2.append (.cons rv .nil)
theorem tE_mono {m : Ex} {Q Q' : VK} (h : tE K ca R G E m σ H Q) (k : ∀ v H', Q v H' → Q' v H') : tE K ca R G E m σ H Q' := by
  obtain ⟨ρ, S, φ, r, re, rs, e1, go⟩ := h
  refine ⟨ρ, S, φ, r, re, rs, e1, ?_⟩
  cases r with
  | ok d S1 => exact fun φ' H' v le rs rv => k _ _ (go φ' H' v le rs rv)
  | er x S1 => exact go
/-- tuple(l), a new tuple of ints -/
def tNewT (K : PySem.W.Frag) (te : TE) : TE := fun σ H Q => te σ H fun x H1 => ∃ p xs, x = .ref p ∧ SqL K H1 p xs ∧ ∀ q, H1 q = none → Q (.ref q) (upd H1 q (.tup xs))
theorem s_dpt (c : CK T N K ca R G k X sc false E) {o a e : Expr} {f : Str} {fp ip q p : Pos} {x y z : Ex} (hf : f = ("tuple" : Str)) (hg : gli sc f = true) (hb : T.bis.contains f = true) (hn : noStar a = true) (h2 : noComp e = true) (ho : PE X o (tE K ca R G E x)) (ha : PE X a (tE K ca R G E y)) (he : PE X e (tE K ca R G E z)) :
    PS X (.Assign [.Subscript o (.Call (.Name f fp) [a] [] ip) q] e p) (tS K ca R G w E (.dpt x y z)) := by
  subst hf
  have hT : PE X (.Call (.Name "tuple" fp) [a] [] ip) (tNewT X.K (tE K ca R G E y)) := by
    refine (pe_callTy call_tuple_of (gli_ok c hg).1 (c.bis _ hb) (by decide +kernel) (pa_cons ha pa_nil (star_cons hn _ _)) (by decide) (by decide) (star_cons hn _ _) rfl).imp fun σ H Q h => ?_
    refine tE_mono (m := y) h fun v H' hv => ?_
    obtain ⟨p', xs, rfl, h1, h2⟩ := hv
    exact ⟨_, _, rfl, .inl ⟨h1, h2⟩⟩
  have hu : X.A.units + 1 < cLine := by have := c.hu; omega
  refine (ps_dput hu ho hT he (swap_none h2 _ _ _)).imp fun Z σ H ⟨ρ, S, φ, r, re, rs, e1, go⟩ => ?_
  refine sE_bnd re rs e1 go fun d1 S1 φ1 H1 v1 le1 rs1 rv1 e2 => ?_
  refine sE_bnd (re.mono le1) rs1 e2 (go.mono le1) fun d2 S2 φ2 H2 v2 le2 rs2 rv2 e3 => ?_
  refine sE_bnd (re.mono (le1.trans le2)) rs2 e3 (go.mono (le1.trans le2)) fun d3 S3 φ3 H3 v3 le3 rs3 rv3 e4 => ?_
  obtain ⟨ρ2, S4, e5, rfl⟩ := nxS_some e4
  simp only [Option.map_eq_some_iff, Prod.mk.injEq] at e5
  obtain ⟨S5, e6, rfl, rfl⟩ := e5
  cases d2 with
  | ref i =>
    cases d3 with
    | ref j =>
      simp only [setQ, Option.bind_eq_some_iff] at e6
      obtain ⟨kvs, f1, ns, ⟨l, f2, f3⟩, f4⟩ := e6
      split at f4
      · rename_i hz
        cases f4
        cases rv3 with
        | ref hj =>
          obtain ⟨ys, y1, y2⟩ := rs3.lst f2 hj
          have y3 := y2.ints f3
          subst y3
          refine ⟨_, _, rfl, (by rw [c.hK]; exact y1), fun t nt => ?_⟩
          have rv2' := rv2.mono (le3.trans (Le.new nt (o := .tup (ns.map V.int))))
          cases rv2' with
          | ref hi =>
            have rs4 := rs3.new nt (u := .tup (ns.map V.int))
            obtain ⟨xs, x1, x2, x3⟩ := rs4.ob _ _ _ (dctOf_at f1) hi
            have rvv := rv1.mono (le2.trans (le3.trans (Le.new nt (o := .tup (ns.map V.int)))))
            have hl : xs.length = kvs.length := by have := congrArg List.length x2; simpa using this
            have kv : (ns.map (Sum.inl : Int → Key)).map kV = ns.map V.int := by rw [List.map_map]; rfl
            refine ⟨_, _, rfl, DPut.t (k := ns.map Sum.inl) x1 (by rw [kv]; exact upd_same) (by rw [hl]; exact Nat.lt_of_lt_of_le hz lim_line), ?_⟩
            have le5 : Le φ3 (upd H3 t (.tup (ns.map V.int))) φ3 (upd (upd H3 t (.tup (ns.map V.int))) _ (.dT (putK xs (ns.map Sum.inl) v1))) := Le.mutO x1 rfl
            obtain ⟨p1, p2⟩ := RQs.put (k := ns) (rvv.mono le5) x2 (RVs.mono le5 x3)
            have le := le1.trans (le2.trans (le3.trans ((Le.new nt).trans le5)))
            exact (go.mono le).here (rs4.putO (dctOf_at f1) rfl hi x1 rfl rfl ⟨_, upd_same, p1, p2⟩) (re.mono le)
      · cases f4
    | _ => cases e6
  | _ => cases e6
/-! ### raise, try -/
theorem okD_ok {d : D} {v : V} (h : okD d = true) (r : RV K φ H d v) : Xp.okF v := by
  cases r with
  | str x => exact .inl ⟨x, rfl, of_decide_eq_true h⟩
  | int i => exact .inr ⟨i, rfl, of_decide_eq_true h⟩
  | _ => cases h
theorem s_rse (c : CK T N K ca R G k X sc false E) {x f : Str} {i : Nat} {e : Expr} {m : Ex} {p q q2 : Pos} (hg : gli sc x = true) (hx : T.xc.lookup x = some (i, f)) (hn : noStar e = true) (he : PE X e (tE K ca R G E m)) :
    PS X (.Raise (some (.Call (.Name x p) [e] [] q)) none q2) (tS K ca R G w E (.rse i f m)) := by
  obtain ⟨g1, g2, g3⟩ := gli_ok c hg
  obtain ⟨x1, x2, x3⟩ := c.xcs x i f hx
  refine (Xp.ps_raiseX c.calm x2 c.rm (c.tks rfl) (pa_cons he pa_nil (star_cons hn _ _)) g1 x1 x3 g2 (star_cons hn _ _)).imp fun Z σ H ⟨ρ, S, φ, r, re, rs, e1, go⟩ => ?_
  show tE K ca R G E m σ H _
  refine sE_bnd re rs e1 go fun d S1 φ1 H1 v le1 rs1 rv1 e2 => ?_
  split at e2
  · rename_i ho
    cases e2
    refine ⟨v, rfl, okD_ok ho rv1, fun dx nd => ?_⟩
    exact go φ1 (upd H1 dx (.xd [(f, v)])) _ _ σ (le1.trans (Le.new nd)) (rs1.new nd) (re.mono (le1.trans (Le.new nd))) ⟨rfl, .inl ⟨dx, _, rfl, upd_same, rfl, .cons (rv1.mono (Le.new nd)) .nil⟩⟩
  · cases e2
theorem CK.tr (c : CK T N K ca R G k X sc false E) {W : WX} {pn : List (Addr × Obj)} {xe : Value → Shared → Prop} (tk : Takes (X.tr pn xe) W) : CK T N K ca R G k (X.tr pn xe) sc false (fun σ cls d H => W cls d σ H) where
  hs := c.hs
  knd := c.knd
  hN := c.hN
  nd := c.nd
  hK := c.hK
  calm := c.calm
  gd := c.gd
  room := c.room
  fnl := c.fnl
  fns := c.fns
  bis := c.bis
  mth := c.mth
  gls := c.gls
  gds := c.gds
  dfs := c.dfs
  pas := fun σ => passAt tk σ
  tks := fun _ => tk
  stk := c.stk
  xcs := c.xcs
  xhs := c.xhs
  cls := c.cls
  mes := c.mes
  fds := c.fds
theorem RE.off (h : RE K φ H ρ σ) (j : Nat) (o : Option V) : RE K φ H (ρ.set j none) (σ.set j o) := by
  refine ⟨by simp [h.1], fun i d e => ?_⟩
  by_cases hij : j = i
  · subst hij
    rw [List.getElem?_set] at e
    simp only [if_true] at e
    split at e <;> cases e
  · rw [List.getElem?_set_ne hij] at e
    obtain ⟨v, h1, h2⟩ := h.2 i d e
    exact ⟨v, by rw [List.getElem?_set_ne hij]; exact h1, h2⟩
/-- what a try asks of its body -/
theorem tri_read {y : Sms} {yes no : List Nat} {io : Option Nat} {h : Hs} {Z : Ends} {r : Rt} {E' : L2.St → XK} (re : RE K φ H ρ σ) (rs : RS K ca φ H S) (e1 : ex R G w (.tri y yes no io h) ρ S = some r) (go : GoS K ca E φ H r Z)
    (hno : ∀ (x : Exn) c dd σ' H', x.c ∈ no → c = .ref (ca x.c) → E σ' c dd H' → E' σ' c dd H')
    (hyes : ∀ (x : Exn) ρ1 S1 f φ' H' cc dd σ', x.c ∈ yes → Le φ H φ' H' → RS K ca φ' H' S1 → RE K φ' H' ρ1 σ' → RX K ca φ' H' x cc dd → exH x h (offR io ρ1) S1 = some f → GoS K ca E φ H (.ok f (offR io ρ1) S1) Z → E' σ' cc dd H') :
    tSs K ca R G w E' y Z σ H := by
  simp only [ex] at e1
  cases q : exs R G w y ρ S with
  | none => rw [q] at e1; cases e1
  | some o =>
    rw [q] at e1
    refine ⟨ρ, S, φ, o, re, rs, q, ?_⟩
    cases o with
    | ok f ρ' S' =>
      cases e1
      exact go
    | er x ρ1 S1 =>
      intro φ' H' cc dd σ' le rs' re' rx
      simp only [triE] at e1
      split at e1
      · rename_i hy
        simp only [Option.map_eq_some_iff] at e1
        obtain ⟨f, e2, rfl⟩ := e1
        exact hyes x ρ1 S1 f φ' H' cc dd σ' (by simpa using hy) le rs' re' rx e2 go
      · split at e1
        · rename_i hn
          cases e1
          exact hno x cc dd σ' H' (by simpa using hn) rx.1 (go φ' H' cc dd σ' le rs' re' rx)
        · cases e1
theorem exH_fl {x : Exn} {ρ : Rho} {S : Sto} : ∀ {h : Hs} {f : Fl}, exH x h ρ S = some f → match f with
    | .nx => True
    | .ret _ => True
    | _ => False
  | .nil, _, e => by cases e; trivial
  | .ret a, _, e => by
    simp only [exH, Option.map_eq_some_iff] at e
    obtain ⟨d, _, rfl⟩ := e
    trivial
  | .retn, _, e => by cases e; trivial
  | .iff c a r, f, e => by
    simp only [exH] at e
    split at e
    · simp only [Option.map_eq_some_iff] at e
      obtain ⟨d, _, rfl⟩ := e
      trivial
    · exact exH_fl e
    · cases e
theorem s_tri_as (c : CK T N K ca R G k X sc false E) (hp : PassesOwn (model X.prog X.w) X.A X.env X.xe) {x n : Str} {body suite : List Stmt} {b₀ : Stmt} {y : Sms} {h : Hs} {yes no : List Nat} {j : Nat} {np pos pos' : Pos}
    (hg : gli sc x = true) (hx : T.xh.lookup x = some (yes, no)) (hl : loc true sc n = true) (hj : slot N n = some j)
    (hb : ∀ X' E', CK T N K ca R G k X' sc false E' → PassesOwn (model X'.prog X'.w) X'.A X'.env X'.xe → PSs X' body (tSs K ca R G w E' y)) (hh : cpHs T N sc (some n) 20 (b₀ :: suite) = some h) :
    PS X (.Try body [.ExceptHandler (some (.Name x np)) (some n) (b₀ :: suite) pos'] [] [] pos) (tS K ca R G w E (.tri y yes no (some j) h)) := by
  obtain ⟨g1, g2, g3⟩ := gli_ok c hg
  obtain ⟨C, hC, hy, hn⟩ := c.xhs x yes no hx
  obtain ⟨k1, k2⟩ := c.stk rfl
  have nm : Names X x C := ⟨g1, g2, hC.imp id fun ⟨z1, z2⟩ => ⟨z1, z2, g3⟩⟩
  have ch : CH T N K ca X sc yes := ⟨c.hs, c.hN, c.hK, c.hu, fun i hi => by rw [← c.hK]; exact (hy i hi).2⟩
  have hln : X.env.kindOf n = some .local := by
    show X.env.scope.names.lookup n = _
    rw [c.hs]
    simpa [loc] using hl
  refine (ps_try_as k1 k2 (by rw [c.hN]; exact c.nd) (by rw [c.hN]; exact (slot_at hj).1) hln nm (c.tks rfl) (tb := fun W => tSs K ca R G w (fun σ cls d H => W cls d σ H) y) (fun W pn xe tk po => hb _ _ (c.tr tk) po)
    (ts := fun a cls d => tHs K ca a cls d (some j) yes h) (fun a oe cls d pn hz hf => hs_ok ch hz hf (fun x e => by cases e; exact ⟨hj.symm, rfl⟩) _ h hh)).imp fun Z σ H ⟨ρ, S, φ, r, re, rs, e1, go⟩ => ?_
  refine tri_read re rs e1 go (fun x cc dd σ' H' hx2 ec he => ?_) fun x0 ρ1 S1 f φ' H' cc dd σ' hx2 le rs' re' rx e2 go2 => ?_
  · exact ⟨false, by rw [ec]; exact hn _ hx2, fun z => (by cases z), fun _ => he⟩
  · refine ⟨true, by rw [rx.1]; exact (hy _ hx2).1, fun _ a na => ?_, fun z => (by cases z)⟩
    refine ⟨ρ1.set j none, S1, φ', x0, f, RE.off re' j _, rs', ⟨fun j' e hlt => ?_, rx, hx2⟩, e2, ?_⟩
    · cases e
      rw [List.length_set] at hlt
      rw [List.getElem?_set_self hlt]
    · cases f with
      | nx =>
        have z := RE.off (RE.off re' j (some (.ref a))) j none
        rw [List.set_set] at z
        exact go2 φ' H' le rs' _ z
      | ret d => exact fun v rv => go2 φ' H' le rs' v rv
      | _ => 
        exfalso
        clear go2 hb
        exact exH_fl e2
theorem s_tri_only (c : CK T N K ca R G k X sc false E) (hp : PassesOwn (model X.prog X.w) X.A X.env X.xe) {x : Str} {body suite : List Stmt} {b₀ : Stmt} {y : Sms} {h : Hs} {yes no : List Nat} {np pos pos' : Pos}
    (hg : gli sc x = true) (hx : T.xh.lookup x = some (yes, no))
    (hb : ∀ X' E', CK T N K ca R G k X' sc false E' → PassesOwn (model X'.prog X'.w) X'.A X'.env X'.xe → PSs X' body (tSs K ca R G w E' y)) (hh : cpHs T N sc none 20 (b₀ :: suite) = some h) :
    PS X (.Try body [.ExceptHandler (some (.Name x np)) none (b₀ :: suite) pos'] [] [] pos) (tS K ca R G w E (.tri y yes no none h)) := by
  obtain ⟨g1, g2, g3⟩ := gli_ok c hg
  obtain ⟨C, hC, hy, hn⟩ := c.xhs x yes no hx
  obtain ⟨k1, k2⟩ := c.stk rfl
  have nm : Names X x C := ⟨g1, g2, hC.imp id fun ⟨z1, z2⟩ => ⟨z1, z2, g3⟩⟩
  have ch : CH T N K ca X sc yes := ⟨c.hs, c.hN, c.hK, c.hu, fun i hi => by rw [← c.hK]; exact (hy i hi).2⟩
  refine (ps_try_only k1 k2 nm (c.tks rfl) (tb := fun W => tSs K ca R G w (fun σ cls d H => W cls d σ H) y) (fun W pn xe tk po => hb _ _ (c.tr tk) po)
    (ts := fun a cls d => tHs K ca a cls d none yes h) (fun a oe cls d pn hz hf => hs_ok ch hz hf (fun x e => by cases e) _ h hh)).imp fun Z σ H ⟨ρ, S, φ, r, re, rs, e1, go⟩ => ?_
  refine tri_read re rs e1 go (fun x cc dd σ' H' hx2 ec he => ?_) fun x0 ρ1 S1 f φ' H' cc dd σ' hx2 le rs' re' rx e2 go2 => ?_
  · exact ⟨false, by rw [ec]; exact hn _ hx2, fun z => (by cases z), fun _ => he⟩
  · refine ⟨true, by rw [rx.1]; exact (hy _ hx2).1, fun _ a na => ?_, fun z => (by cases z)⟩
    refine ⟨ρ1, S1, φ', x0, f, re', rs', ⟨fun j' e hlt => (by cases e), rx, hx2⟩, e2, ?_⟩
    cases f with
    | nx => exact go2 φ' H' le rs' _ re'
    | ret d => exact fun v rv => go2 φ' H' le rs' v rv
    | _ => exact (exH_fl e2).elim
end
end Mx
set_option Elab.async false
set_option linter.all false
set_option maxRecDepth 100000
set_option maxHeartbeats 8000000
namespace Mx
open L2 PySem PySem.Spec PyProof.Rows
section
variable {T : Tb} {N : List Str} {K : PySem.W.Frag} {ca : Nat → Addr} {R : Nat → List D → Sto → Mo D} {G : List D} {k w : Nat} {X : Cx} {sc : Scope} {B : Bool} {E : L2.St → XK}
variable {φ φ' : List Addr} {H H' : Hp} {S S' : Sto} {ρ : Rho} {σ : L2.St}
theorem loc_local (c : CK T N K ca R G k X sc false E) {x : Str} (h : loc true sc x = true) : X.env.scope.names.lookup x = some .local := by
  unfold loc at h
  rw [c.hs]
  simpa using h
theorem parOf_some {ts : List Expr} {e : Expr} {x y : Str} {a b : Expr} (h : parOf sc ts e = some (x, y, a, b)) :
    ∃ px py k2 p2, ts = [.Name x px, .Name y py] ∧ e = .Tuple [a, b] k2 p2 ∧ loc true sc x = true ∧ loc true sc y = true ∧ px.line = py.line ∧ (x == y) = false ∧ noStar a = true ∧ noStar b = true ∧ (foldedForSure 8 a && foldedForSure 8 b) = false ∧ (constantsAlone 8 a && constantsAlone 8 b) = false := by
  unfold parOf at h
  split at h
  · split at h
    · rename_i hq
      simp only [Bool.and_eq_true, decide_eq_true_eq, Bool.not_eq_true'] at hq
      obtain ⟨⟨⟨⟨⟨⟨⟨q1, q2⟩, q3⟩, q4⟩, q5⟩, q6⟩, q7⟩, q8⟩ := hq
      cases h
      exact ⟨_, _, _, _, rfl, rfl, q1, q2, q3, q4, q5, q6, q7, q8⟩
    · cases h
  · cases h
theorem noStar_sw {e : Expr} (h : noStar e = true) {P : Bool → Prop} (hP : P false) : P (match e with | .Starred .. => true | _ => false) := by
  cases e <;> first | exact hP | cases h
theorem swapped_two (c : CK T N K ca R G k X sc false E) {x y : Str} {a b : Expr} {px py pt pt2 : Pos} {n n2 : Nat} (hx : loc true sc x = true) (hy : loc true sc y = true) (hl : px.line = py.line) (hxy : (x == y) = false) (ha : noStar a = true) (hb : noStar b = true)
    (h1 : (foldedForSure 8 a && foldedForSure 8 b) = false) (h2 : (constantsAlone 8 a && constantsAlone 8 b) = false) :
    swappedStores [.Tuple [.Name x px, .Name y py] n pt] (.Tuple [a, b] n2 pt2) X.env = pure (some [x, y]) := by
  have k1 : X.env.blockKind = .function := by unfold PySem.Env.blockKind; rw [c.hs, c.knd]; rfl
  have kx : X.env.kindOf x = some .local := loc_local c hx
  have ky : X.env.kindOf y = some .local := loc_local c hy
  have ed : [x, y].eraseDups.length = 2 := by
    have hyx : (y == x) = false := by
      rw [beq_eq_false_iff_ne] at hxy ⊢
      exact fun e => hxy e.symm
    simp [List.eraseDups_cons, hyx]
  unfold swappedStores
  simp only [List.length_cons, List.length_nil, k1, List.any_cons, List.any_nil, List.head?_cons, Option.map_some, Option.getD_some, Expr.pos, List.filterMap_cons, List.filterMap_nil, kx, ky, hl, beq_self_eq_true, Bool.and_self, if_true, List.all_cons, List.all_nil, Bool.and_true]
  rw [if_neg (by decide)]
  split
  · cases ha
  · split
    · cases hb
    · simp only [h1, h2, Bool.false_eq_true, if_false, ed]
      rfl
theorem s_par (c : CK T N K ca R G k X sc false E) {x y : Str} {a b : Expr} {px py pt pt2 p : Pos} {n n2 i j : Nat} {m m' : Ex} (hx : loc true sc x = true) (hy : loc true sc y = true) (hl : px.line = py.line) (hxy : (x == y) = false) (ha : noStar a = true) (hb : noStar b = true)
    (h1 : (foldedForSure 8 a && foldedForSure 8 b) = false) (h2 : (constantsAlone 8 a && constantsAlone 8 b) = false) (hi : slot N x = some i) (hj : slot N y = some j) (qa : PE X a (tE K ca R G E m)) (qb : PE X b (tE K ca R G E m')) :
    PS X (.Assign [.Tuple [.Name x px, .Name y py] n pt] (.Tuple [a, b] n2 pt2) p) (tS K ca R G w E (.par i j m m')) := by
  have nd : X.N.Nodup := by rw [c.hN]; exact c.nd
  have ai : X.N[i]? = some x := by rw [c.hN]; exact (slot_at hi).1
  have aj : X.N[j]? = some y := by rw [c.hN]; exact (slot_at hj).1
  have hij : i ≠ j := fun e => by
    subst e
    rw [ai] at aj
    cases aj
    simp at hxy
  refine (ps_par c.calm nd ai aj hij (loc_local c hx) (loc_local c hy) (pa_cons qa (pa_cons qb pa_nil (star_cons hb _ _)) (star_cons ha _ _)) (swapped_two c hx hy hl hxy ha hb h1 h2)).imp fun Z σ H ⟨ρ, S, φ, r, re, rs, e1, go⟩ => ?_
  refine sE_bnd re rs e1 go fun d1 S1 φ1 H1 v1 le1 rs1 rv1 e2 => ?_
  refine sE_bnd (re.mono le1) rs1 e2 (go.mono le1) fun d2 S2 φ2 H2 v2 le2 rs2 rv2 e3 => ?_
  cases e3
  exact ⟨v1, v2, rfl, (go.mono (le1.trans le2)).here rs2 (((re.mono (le1.trans le2)).set i (rv1.mono le2)).set j rv2)⟩
theorem s_iff {e : Expr} {a b : List Stmt} {m : Ex} {x y : Sms} {p : Pos} (h : PT X e (tT K ca R G E m)) (ha : PSs X a (tSs K ca R G w E x)) (hb : PSs X b (tSs K ca R G w E y)) : PS X (.If e a b p) (tS K ca R G w E (.iff m x y)) := by
  refine (ps_if h ha hb).imp fun Z σ H ⟨ρ, S, φ, r, re, rs, e1, go⟩ => ?_
  refine sT_bnd re rs e1 go fun d1 S1 φ1 H1 v1 le1 rs1 rv1 e2 => ?_
  split at e2
  · cases rv1
    exact ⟨true, rfl, iteT ⟨ρ, S1, φ1, r, re.mono le1, rs1, e2, go.mono le1⟩⟩
  · cases rv1
    exact ⟨false, rfl, iteF ⟨ρ, S1, φ1, r, re.mono le1, rs1, e2, go.mono le1⟩⟩
  · cases e2
theorem ss_nil : PSs X [] (tSs K ca R G w E .nil) := pss_nil.imp fun Z σ H ⟨ρ, S, φ, r, re, rs, e1, go⟩ => by
  cases e1
  exact go.here rs re
theorem ss_cons {s : Stmt} {r : List Stmt} {a : Sm} {b : Sms} (h1 : PS X s (tS K ca R G w E a)) (h2 : PSs X r (tSs K ca R G w E b)) : PSs X (s :: r) (tSs K ca R G w E (.cons a b)) := by
  refine (pss_cons h1 h2).imp fun Z σ H ⟨ρ, S, φ, o, re, rs, e1, go⟩ => ?_
  simp only [exs] at e1
  cases q : ex R G w a ρ S with
  | none => rw [q] at e1; cases e1
  | some o1 =>
    rw [q] at e1
    refine ⟨ρ, S, φ, o1, re, rs, q, ?_⟩
    cases o1 with
    | er x ρ1 S1 => cases e1; exact go
    | ok f ρ1 S1 =>
      cases f with
      | nx => exact fun φ1 H1 le1 rs1 σ1 re1 => ⟨ρ1, S1, φ1, o, re1, rs1, e1, go.mono le1⟩
      | _ => cases e1; exact go
/-! ### loops -/
/-- one turn's end -/
theorem turn_end {Z : Ends} {r r' : Rt} {Nn : L2.St → Hp → Prop} {next : Rho → Sto → MoS} (go : GoS K ca E φ H r Z)
    (hN : ∀ ρ2 S2 φ2 H2 σ2, Le φ H φ2 H2 → RS K ca φ2 H2 S2 → RE K φ2 H2 ρ2 σ2 → next ρ2 S2 = some r → Nn σ2 H2)
    (e : (match (some r' : MoS) with
        | some (.ok .nx ρ2 S2) => next ρ2 S2
        | some (.ok .ct ρ2 S2) => next ρ2 S2
        | some (.ok .brk ρ2 S2) => some (.ok .nx ρ2 S2)
        | r => r) = some r) : GoS K ca E φ H r' { Z with nx := Nn, ct := Nn, bk := Z.nx } := by
  cases r' with
  | er x ρ1 S1 => cases e; exact go
  | ok f ρ1 S1 =>
    cases f with
    | nx => exact fun φ1 H1 le1 rs1 σ1 re1 => hN ρ1 S1 φ1 H1 σ1 le1 rs1 re1 e
    | ct => exact fun φ1 H1 le1 rs1 σ1 re1 => hN ρ1 S1 φ1 H1 σ1 le1 rs1 re1 e
    | brk => cases e; exact fun φ1 H1 le1 rs1 σ1 re1 => go φ1 H1 le1 rs1 σ1 re1
    | ret d => cases e; exact fun φ1 H1 le1 rs1 v rv => go φ1 H1 le1 rs1 v rv
theorem s_for (c : CK T N K ca R G k X sc false E) (hp : PassesOwn (model X.prog X.w) X.A X.env X.xe) {tg it : Expr} {body : List Stmt} {p : Pos} {kd : Ib} {as : Exs} {t : Tg} {b : Sms}
    (hi : PI X tg it (tI K ca R G E kd as)) (hs : ∀ x, foldedSetIterable it X.env x = pure x) (ht : cpT N false sc tg = some t) (hb : PSs X body (tSs K ca R G w E b)) : PS X (.For tg it body [] p) (tS K ca R G w E (.for t kd as b)) := by
  refine (ps_for hp c.calm hi (g_ok c ht) hb hs).imp fun Z σ H ⟨ρ, S, φ, r, re, rs, e1, go⟩ => ?_
  have e2 : bnS ρ (evs R G as ρ S) (fun ds S1 => match it1 S1 kd ds with
    | some j => forL t j (fun ρ S => exs R G w b ρ S) (lenI j S1 + 1) 0 ρ S1
    | none => none) = some r := by
    rw [ex] at e1
    exact e1
  cases q1 : evs R G as ρ S with
  | none => rw [q1] at e2; cases e2
  | some o1 =>
    rw [q1] at e2
    cases o1 with
    | er x S1 => cases e2; exact ⟨ρ, S, φ, _, re, rs, q1, fun φ' H' c dd le rs rx => go φ' H' c dd σ le rs (re.mono le) rx⟩
    | ok ds S1 =>
      simp only [bnS] at e2
      split at e2
      · rename_i j hj
        refine ⟨ρ, S, φ, _, re, rs, q1, j, hj, fun φ1 H1 J le1 rs1 jok => ?_⟩
        refine ⟨fun i m σ2 H2 => ∃ φ2 S2 ρ2, Le φ1 H1 φ2 H2 ∧ RS K ca φ2 H2 S2 ∧ RE K φ2 H2 ρ2 σ2 ∧ forL t j (fun ρ S => exs R G w b ρ S) m i ρ2 S2 = some r, ⟨_, φ1, S1, ρ, Le.refl _ _, rs1, re.mono le1, e2⟩, ?_⟩
        rintro i m σ2 H2 ⟨φ2, S2, ρ2, le2, rs2, re2, e3⟩
        cases m with
        | zero => cases e3
        | succ n =>
          rw [forL] at e3
          cases q2 : nxt j i S2 with
          | none => rw [q2] at e3; cases e3
          | some o2 =>
            rw [q2] at e3
            have jo := jok φ2 H2 S2 i o2 le2 rs2 q2
            cases o2 with
            | none =>
              cases e3
              exact .inl ⟨jo, (go.mono (le1.trans le2)).here rs2 re2⟩
            | some d =>
              simp only at e3
              refine .inr ⟨jo.1, fun σ' H' => ∃ φ' S' ρ', Le φ1 H1 φ' H' ∧ RS K ca φ' H' S' ∧ RE K φ' H' ρ' σ' ∧ forL t j (fun ρ S => exs R G w b ρ S) n (i + 1) ρ' S' = some r, fun σ' H' z => ⟨n, Nat.lt_succ_self n, z⟩, fun x H' hy => ?_⟩
              obtain ⟨le3, rs3, rv3⟩ := jo.2 x H' hy
              cases q3 : asgT t d ρ2 with
              | none => rw [q3] at e3; cases e3
              | some ρ3 =>
                rw [q3] at e3
                simp only at e3
                refine g_read q3 (re2.mono le3) rv3 fun σ3 re3 _ => ?_
                cases q4 : exs R G w b ρ3 S2 with
                | none => rw [q4] at e3; cases e3
                | some r' =>
                  rw [q4] at e3
                  refine ⟨ρ3, S2, φ2, r', re3, rs3, q4, turn_end (go.mono (le1.trans (le2.trans le3))) (next := fun ρ S => forL t j (fun ρ S => exs R G w b ρ S) n (i + 1) ρ S) (fun ρ4 S4 φ4 H4 σ4 le4 rs4 re4 e4 => ⟨φ4, S4, ρ4, le2.trans (le3.trans le4), rs4, re4, e4⟩) e3⟩
      · cases e2
theorem s_whl (hp : PassesOwn (model X.prog X.w) X.A X.env X.xe) {e : Expr} {body : List Stmt} {p : Pos} {m : Ex} {b : Sms} (hc : PT X e (tT K ca R G E m)) (hb : PSs X body (tSs K ca R G w E b)) : PS X (.While e body [] p) (tS K ca R G w E (.whl m b)) := by
  refine (ps_while hp hc hb).imp fun Z σ H ⟨ρ, S, φ, r, re, rs, e1, go⟩ => ?_
  refine ⟨fun n σ2 H2 => ∃ φ2 S2 ρ2, Le φ H φ2 H2 ∧ RS K ca φ2 H2 S2 ∧ RE K φ2 H2 ρ2 σ2 ∧ whL (fun ρ S => ev R G m true ρ S) (fun ρ S => exs R G w b ρ S) n ρ2 S2 = some r, ⟨w, φ, S, ρ, Le.refl _ _, rs, re, e1⟩, ?_⟩
  rintro n σ2 H2 ⟨φ2, S2, ρ2, le2, rs2, re2, e3⟩
  cases n with
  | zero => cases e3
  | succ n =>
    rw [whL] at e3
    refine sT_bnd re2 rs2 e3 (go.mono le2) fun d1 S3 φ3 H3 v3 le3 rs3 rv3 e4 => ?_
    split at e4
    · cases rv3
      refine ⟨true, rfl, iteT ⟨fun σ' H' => ∃ φ' S' ρ', Le φ H φ' H' ∧ RS K ca φ' H' S' ∧ RE K φ' H' ρ' σ' ∧ whL (fun ρ S => ev R G m true ρ S) (fun ρ S => exs R G w b ρ S) n ρ' S' = some r, fun σ' H' z => ⟨n, Nat.lt_succ_self n, z⟩, ?_⟩⟩
      cases q4 : exs R G w b ρ2 S3 with
      | none => rw [q4] at e4; cases e4
      | some r' =>
        rw [q4] at e4
        exact ⟨ρ2, S3, φ3, r', re2.mono le3, rs3, q4, turn_end (go.mono (le2.trans le3)) (next := fun ρ S => whL (fun ρ S => ev R G m true ρ S) (fun ρ S => exs R G w b ρ S) n ρ S) (fun ρ5 S5 φ5 H5 σ5 le5 rs5 re5 e5 => ⟨φ5, S5, ρ5, le2.trans (le3.trans le5), rs5, re5, e5⟩) e4⟩
    · cases rv3
      cases e4
      exact ⟨false, rfl, iteF ((go.mono (le2.trans le3)).here rs3 (re2.mono le3))⟩
    · cases e4
/-! ### all statements -/
theorem body_ok {f : Stmt → Option Sm} (hf : ∀ s a, f s = some a → PS X s (tS K ca R G w E a)) : ∀ {l : List Stmt} {b : Sms}, (l.foldr (fun s r => match f s, r with
      | some a, some b => some (Sms.cons a b)
      | _, _ => none) (some .nil)) = some b → PSs X l (tSs K ca R G w E b)
  | [], b, h => by cases h; exact ss_nil
  | s :: l, b, h => by
    rw [List.foldr_cons] at h
    split at h
    · rename_i a r h1 h2
      cases h
      exact ss_cons (hf _ _ h1) (body_ok hf h2)
    · cases h
theorem tryOf_some {hs : List ExceptHandler} {o f su : List Stmt} {x : Str} {n : Option Str} {b0 : Stmt} (h : tryOf hs o f = some (x, n, b0, su)) : ∃ np pos', hs = [.ExceptHandler (some (.Name x np)) n (b0 :: su) pos'] ∧ o = [] ∧ f = [] := by
  unfold tryOf at h
  split at h
  · cases h
    exact ⟨_, _, rfl, rfl, rfl⟩
  · cases h
theorem cpS_ok (n : Nat) : ∀ (q : Nat) (X : Cx) (E : L2.St → XK), CK T N K ca R G k X sc false E → PassesOwn (model X.prog X.w) X.A X.env X.xe → ∀ (s : Stmt) (a : Sm), cpS T N n q sc s = some a → PS X s (tS K ca R G w E a) := by
  intro q
  induction q with
  | zero => intro X E c hp s a h; cases h
  | succ q ih0 =>
    intro X E c hp s a h
    have ih := ih0 X E c hp
    have hf : ∀ e m, cp T N n false sc e = some m → PE X e (tE K ca R G E m) := fun e m z => (cp_ok n X sc false E c e m z).1
    have ht : ∀ e m, cp T N n false sc e = some m → PT X e (tT K ca R G E m) := fun e m z => (cp_ok n X sc false E c e m z).2.1
    cases s with
    | Pass p => cases h; exact s_pass
    | Break p => cases h; exact s_brk
    | Continue p => cases h; exact s_cnt
    | Expr e p =>
      simp only [cpS] at h
      split at h
      · rename_i hn
        (simp only [Option.map_eq_some_iff] at h)
        obtain ⟨m, h1, rfl⟩ := h
        exact s_expr hn (hf _ _ h1)
      · cases h
    | Return o p =>
      cases o with
      | none => cases h; exact s_retn
      | some e =>
        simp only [cpS, Option.map_eq_some_iff] at h
        obtain ⟨m, h1, rfl⟩ := h
        exact s_ret (hf _ _ h1)
    | If e l r p =>
      simp only [cpS] at h
      split at h
      · rename_i m x y h1 h2 h3
        cases h
        exact s_iff (ht _ _ h1) (body_ok ih h2) (body_ok ih h3)
      · cases h
    | For tg it l o p =>
      cases o with
      | cons _ _ => simp only [cpS] at h; cases h
      | nil =>
        simp only [cpS] at h
        split at h
        · rename_i kd as t y h1 h2 h3
          cases h
          obtain ⟨i1, i2⟩ := i_ok (tg := tg) c hf h1
          exact s_for c hp i1 i2 h2 (body_ok ih h3)
        · cases h
    | Raise eo co p =>
      rcases eo with _ | eo
      · simp only [cpS] at h; cases h
      cases co with
      | some _ => cases eo <;> (simp only [cpS] at h; cases h)
      | none =>
        cases eo with
        | Call fn as kws q1 =>
          cases fn with
          | Name x px =>
            rcases as with _ | ⟨e, _ | ⟨e2, as⟩⟩
            · simp only [cpS] at h; cases h
            · cases kws with
              | cons _ _ => simp only [cpS] at h; cases h
              | nil =>
                simp only [cpS] at h
                split at h
                · rename_i hg
                  rw [Bool.and_eq_true] at hg
                  split at h
                  · rename_i i f m h1 h2
                    cases h
                    exact s_rse c hg.1 h1 hg.2 (hf _ _ h2)
                  · cases h
                · cases h
            · simp only [cpS] at h; cases h
          | _ => simp only [cpS] at h; cases h
        | _ => simp only [cpS] at h; cases h
    | Try b hs o f p =>
      simp only [cpS] at h
      split at h
      rotate_left
      · cases h
      rename_i x nm b0 su hq
      obtain ⟨np, pos', rfl, rfl, rfl⟩ := tryOf_some hq
      split at h
      rotate_left
      · cases h
      rename_i hg
      split at h
      rotate_left
      · cases h
      rename_i yes no y hh i h1 h2 h3 h4
      cases h
      have hb : ∀ X' E', CK T N K ca R G k X' sc false E' → PassesOwn (model X'.prog X'.w) X'.A X'.env X'.xe → PSs X' b (tSs K ca R G w E' y) := fun X' E' c' hp' => body_ok (ih0 X' E' c' hp') h2
      cases nm with
      | none =>
        cases h4
        exact s_tri_only c hp hg h1 hb h3
      | some n' =>
        simp only [asOf] at h4
        split at h4
        · rename_i hl
          simp only [Option.map_eq_some_iff] at h4
          obtain ⟨j, h5, rfl⟩ := h4
          exact s_tri_as c hp hg h1 hl h5 hb h3
        · cases h4
    | While e l o p =>
      cases o with
      | cons _ _ => simp only [cpS] at h; cases h
      | nil =>
        simp only [cpS] at h
        split at h
        · rename_i m y h1 h2
          cases h
          exact s_whl hp (ht _ _ h1) (body_ok ih h2)
        · cases h
    | AugAssign tg op e p =>
      cases tg with
      | Name x px =>
        simp only [cpS] at h
        split at h
        · rename_i hl
          split at h
          · rename_i i o m h1 h2 h3
            cases h
            exact s_aug c hl h1 h2 (hf _ _ h3)
          · cases h
        · cases h
      | Attribute o f px =>
        simp only [cpS] at h
        split at h
        · rename_i cl x b m h1 h2 h3 h4
          cases h
          exact s_afl c h1 h3 (hf _ _ h2) (hf _ _ h4)
        · cases h
      | Subscript o i px =>
        simp only [cpS] at h
        split at h
        · rename_i hn
          split at h
          · rename_i x y b m h1 h2 h3 h4
            cases h
            exact s_agi c.hK hn h3 (hf _ _ h1) (hf _ _ h2) (hf _ _ h4)
          · cases h
        · cases h
      | _ => simp only [cpS] at h; cases h
    | Assign tgs e p =>
      rcases tgs with _ | ⟨tg, _ | ⟨t2, ts⟩⟩
      · simp only [cpS] at h; cases h
      · cases tg with
        | Name x px =>
          simp only [cpS] at h
          split at h
          · rename_i t m h1 h2
            cases h
            exact s_asgN c n h1 h2
          · cases h
        | Attribute o f px =>
          simp only [cpS] at h
          split at h
          · rename_i hn
            split at h
            · rename_i cs x z h1 h2 h3
              cases h
              exact s_sfl c h1 hn (hf _ _ h2) (hf _ _ h3)
            · cases h
          · cases h
        | Subscript o i px =>
          simp only [cpS] at h
          split at h
          · rename_i hn
            rw [Bool.and_eq_true] at hn
            split at h
            · rename_i a0 ha
              unfold dptOf at ha
              split at ha
              · split at ha
                · rename_i hq
                  obtain ⟨q1, q2, q3, q4⟩ := hq
                  cases ha
                  split at h
                  · rename_i x y z h1 h2 h3
                    cases h
                    exact s_dpt c q1 q2 q3 q4 hn.2 (hf _ _ h1) (hf _ _ h2) (hf _ _ h3)
                  · cases h
                · cases ha
              · cases ha
            split at h
            · rename_i x y z h1 h2 h3
              cases h
              exact s_seti hn.1 hn.2 (hf _ _ h1) (hf _ _ h2) (hf _ _ h3)
            · cases h
          · cases h
        | Tuple ts j px =>
          have gen : ∀ {a}, (if noTuple e && noComp e then match cpT N false sc (.Tuple ts j px), cp T N n false sc e with
              | some t, some m => some (Sm.asg t m)
              | _, _ => none
            else none) = some a → PS X (.Assign [.Tuple ts j px] e p) (tS K ca R G w E a) := fun h => by
            split at h
            · rename_i hn
              rw [Bool.and_eq_true] at hn
              split at h
              · rename_i t m h1 h2
                cases h
                exact s_asgT c hn.1 hn.2 h1 (hf _ _ h2)
              · cases h
            · cases h
          simp only [cpS] at h
          split at h
          · rename_i x y a b h0
            obtain ⟨px', py, k2, p2, rfl, rfl, q1, q2, q3, q4, q5, q6, q7, q8⟩ := parOf_some h0
            split at h
            · rename_i i j m m' h1 h2 h3 h4
              cases h
              exact s_par c q1 q2 q3 q4 q5 q6 q7 q8 h1 h2 (hf _ _ h3) (hf _ _ h4)
            · cases h
          · exact gen h
        | _ => simp only [cpS] at h; cases h
      · simp only [cpS] at h; cases h
    | _ => simp only [cpS] at h; cases h
end
end Mx
set_option Elab.async false
set_option linter.all false
set_option maxRecDepth 100000
set_option maxHeartbeats 8000000
/-! the table of defs -/
namespace Mx
open L2 PySem PySem.Spec PyProof.Rows
/-- one def of the text -/
structure Rw where
  x : Str
  st : Stmt
  N : List Str
  ps : List Str
  body : Sms
  df : List D
  /-- a method: its class and its name in it -/
  own : Option (Nat × Str) := none
/-- the name that the def was written with -/
def Rw.q (r : Rw) : Str := match r.st with
  | .FunctionDef n _ _ _ _ _ _ _ _ _ => n
  | _ => r.x
def Rw.qn (r : Rw) : Str := match r.own with
  | none => r.q
  | some _ => r.x
def Rw.fn (r : Rw) : Fn := ⟨r.ps.length, r.N.length, r.body⟩
structure Rw.Ok (T : Tb) (r : Rw) : Prop where
  sc : FnScope r.N r.ps (defScope r.st)
  bd : cpB T r.N 60 60 (defScope r.st) (defBody r.st) = some r.body
/-- where a def is found -/
def locd (K : PySem.W.Frag) (ca : Nat → Addr) (mg : Str → Option Value) (r : Rw) (f : Addr) : Prop := match r.own with
  | none => mg r.x = some (.ref f)
  | some (c, m) => if m = ("__init__" : Str) then Mk K (ca c) f ∧ PySem.W.keepIn K (.ref f) = true else Meth K (ca c) m f
structure At (K : PySem.W.Frag) (ca : Nat → Addr) (mg : Str → Option Value) (r : Rw) : Prop where
  ex : ∃ f fd dvs kws, locd K ca mg r f ∧ Binds K fd r.ps [] ∧ FunD K r.q r.qn (defArgs r.st) (defBody r.st) (defScope r.st) dvs kws f fd ∧ (r.df ≠ [] → ∃ us vs, Binds K fd r.ps us ∧ Vals vs us ∧ ∀ φ H, RVs K φ H r.df vs)
/-- what stands in the module behind the top -/
structure Gr (T : Tb) (P : Program) (w : World) (K : PySem.W.Frag) (ca : Nat → Addr) (mg : Str → Option Value) (G : List D) (rows : List Rw) : Prop where
  ok : ∀ r ∈ rows, r.Ok T
  at_ : ∀ r ∈ rows, At K ca mg r
  bis : ∀ x, T.bis.contains x = true → mg x = none
  mth : ∀ x, T.mth.contains x = true → ∀ b, mbOf x = some b → mg x = some (biV b)
  gls : ∀ x, T.gl.contains x = true → ∀ d, G[T.gl.idxOf x]? = some d → ∃ u v, mg x = some u ∧ L2.RelV v u ∧ ∀ φ H, RV K φ H d v
  gds : ∀ x kvs, T.gd.lookup x = some kvs → ∃ a es n, mg x = some (.ref a) ∧ KDict K w a es n ∧ KDs K es.toList kvs
  xcs : ∀ x c f, T.xc.lookup x = some (c, f) → mg x = some (.ref (ca c)) ∧ Xp.XCls P w K (ca c) f ∧ mg "super" = none
  xhs : ∀ x yes no, T.xh.lookup x = some (yes, no) → ∃ C, (mg x = some C ∨ (mg x = none ∧ bootBuiltins x = some C)) ∧ (∀ c ∈ yes, PySem.W.exmOne K (.ref (ca c)) C = some true ∧ XfC K (ca c) ∧ ∀ f, T.xf.contains f = true → PySem.W.findIn K (.ref (ca c)) f = some none) ∧ ∀ c ∈ no, PySem.W.exmOne K (.ref (ca c)) C = some false
  fns : ∀ x, T.fn.contains x = true → ∃ r, rows[T.fn.idxOf x]? = some r ∧ r.x = x ∧ r.own = none
  cls : ∀ x c i, T.cl.lookup x = some (c, i) → mg x = some (.ref (ca c)) ∧ ∃ r, rows[i]? = some r ∧ r.own = some (c, ("__init__" : Str))
  mes : ∀ m c i, T.me.lookup m = some (c, i) → Cls K (ca c) ∧ m ≠ "__init__" ∧ ∃ r, rows[i]? = some r ∧ r.own = some (c, m)
  fds : ∀ f cs, T.fd.lookup f = some cs → ∀ c ∈ cs, Cls K (ca c) ∧ NoAttr K (ca c) f
  tdf : ∀ x n ds, T.df.lookup x = some (n, ds) → ∃ r, rows[T.fn.idxOf x]? = some r ∧ r.df = ds ∧ ds ≠ [] ∧ r.x = x ∧ r.own = none
theorem RVs.start {K : PySem.W.Frag} {φ : List Addr} {H : Hp} {ds : List D} {vs : List V} (r : RVs K φ H ds vs) {n m : Nat} (e : n = m) :
    RE K φ H (ds.map some ++ List.replicate n none) (vs.map some ++ List.replicate m none) := by
  subst e
  refine ⟨by simp [r.length], fun i d h => ?_⟩
  by_cases hi : i < ds.length
  · rw [List.getElem?_append_left (by simpa using hi), List.getElem?_map] at h
    cases q : ds[i]? with
    | none => rw [q] at h; cases h
    | some d' =>
      rw [q] at h
      cases h
      obtain ⟨v, h1, h2⟩ := r.get q
      refine ⟨v, ?_, h2⟩
      rw [List.getElem?_append_left (by rw [List.length_map, ← r.length]; exact hi), List.getElem?_map, h1]
      rfl
  · rw [List.getElem?_append_right (by simpa using hi)] at h
    simp only [List.getElem?_replicate] at h
    split at h <;> cases h
theorem GoS.leave {K : PySem.W.Frag} {ca : Nat → Addr} {E : XK} {φ : List Addr} {H : Hp} {r : Rs D} {Q : VK} {m : MoS} (e : leave m = some r) (go : Go K ca E φ H r Q) :
    ∃ r0, m = some r0 ∧ GoS K ca (fun _ => E) φ H r0 { nx := fun _ H' => Q .non H', rt := Q } := by
  unfold Mx.leave at e
  split at e
  · cases e
    exact ⟨_, rfl, fun φ1 H1 le rs σ' _ => go φ1 H1 .non le rs .non⟩
  · cases e
    exact ⟨_, rfl, fun φ1 H1 le rs v rv => go φ1 H1 v le rs rv⟩
  · cases e
    exact ⟨_, rfl, fun φ' H' c dd _ le rs _ rx => go φ' H' c dd le rs rx⟩
  · cases e
theorem table {P : Program} {w : World} {T : Tb} {K : PySem.W.Frag} {mg : Str → Option Value} {G : List D} {rows : List Rw} {ca : Nat → Addr} {wt : Nat} (g : Gr T P w K ca mg G rows) : ∀ (k i : Nat) (r : Rw), rows[i]? = some r →
    ∃ f fd, locd K ca mg r f ∧ Binds K fd r.ps [] ∧ PySem.W.keepIn K (.ref f) = true ∧ (r.df ≠ [] → ∃ us vs, Binds K fd r.ps us ∧ Vals vs us ∧ ∀ φ H, RVs K φ H r.df vs) ∧ ∀ base : Heap, FnG P w K mg base (L2.CX P w) (2 * k) f fd r.ps (spR K ca (run (rows.map Rw.fn) G wt k i)) := by
  intro k
  induction k with
  | zero =>
    intro i r hr
    obtain ⟨f, fd, dvs, kws, h1, h2, h3, h4⟩ := (g.at_ r (List.mem_of_getElem? hr)).ex
    refine ⟨f, fd, h1, h2, h3.kp, h4, fun base => ⟨fun vs H Q E h => ?_, fun A out s H args us vs Q E hg hr0 e0 hbd rv h => ?_⟩⟩
    · obtain ⟨φ, S, ds, r0, _, _, e, _⟩ := h
      cases e
    · obtain ⟨φ, S, ds, r0, _, _, e, _⟩ := h
      cases e
  | succ k ih =>
    intro i r hr
    obtain ⟨f, fd, dvs, kws, h1, h2, h3, h4⟩ := (g.at_ r (List.mem_of_getElem? hr)).ex
    have hF : (rows.map Rw.fn)[i]? = some r.fn := by rw [List.getElem?_map, hr]; rfl
    have ok := g.ok r (List.mem_of_getElem? hr)
    refine ⟨f, fd, h1, h2, h3.kp, h4, fun base => fnG_of (k := 2 * k + 1) h3 ok.sc (fun vs H Q E h => ?_) fun cdv A out s H vs Q E hg hr1 h => ?_⟩
    · obtain ⟨φ, S, ds, r0, rv, _, e, _⟩ := h
      simp only [run, hF] at e
      split at e
      · rename_i hl
        rw [← rv.length, hl]
        rfl
      · cases e
    · obtain ⟨φ, S, ds, r0, rv, rs, e, go⟩ := h
      simp only [run, hF] at e
      split at e
      · rename_i hl
        obtain ⟨r1, e1, go1⟩ := GoS.leave e go
        have ck : CK T r.N K ca (run (rows.map Rw.fn) G wt k) G k (cxOf (L2.CX P w) P w K mg base r.N r.qn (defScope r.st) f cdv A out s H E) (defScope r.st) false (fun _ => E) := by
          refine ⟨rfl, ok.sc.kind, rfl, ok.sc.nd, rfl, rfl, hg, hr1, fun _ _ => rfl, fun x hx => ?_, g.bis, g.mth, g.gls, g.gds, fun x n ds hd hx => ?_, fun _ _ _ _ _ _ I h => passes_call (takes_of rfl rfl rfl rfl) (fun _ _ _ _ z => z) _ _ _ _ _ _ I h, fun _ => takes_of rfl rfl rfl rfl, fun _ => ⟨rfl, rfl⟩, g.xcs, g.xhs, fun x c i hx => ?_, fun m c i hm => ?_, g.fds⟩
          · obtain ⟨r', e1, e2, e3⟩ := g.fns x hx
            obtain ⟨f', fd', q1, q2, q3, q5, q4⟩ := ih _ r' e1
            have q1' : mg r'.x = some (.ref f') := by
              unfold locd at q1
              rw [e3] at q1
              exact q1
            rw [e2] at q1'
            exact ⟨f', fd', _, q1', q3, q2, q4 base⟩
          · obtain ⟨r', e1, e2, e3, e4, e5⟩ := g.tdf x n ds hd
            obtain ⟨f', fd', q1, q2, q3, q5, q4⟩ := ih _ r' e1
            have q1' : mg r'.x = some (.ref f') := by
              unfold locd at q1
              rw [e5] at q1
              exact q1
            rw [e4] at q1'
            obtain ⟨us, vs, q6, q7, q8⟩ := q5 (by rw [e2]; exact e3)
            rw [e2] at q8
            exact ⟨f', fd', _, us, vs, q1', q3, q6, q7, q8, q4 base⟩
          · obtain ⟨y1, r', e1, e2⟩ := g.cls x c i hx
            obtain ⟨f', fd', q1, q2, q3, q5, q4⟩ := ih _ r' e1
            have q1' : Mk K (ca c) f' := by
              unfold locd at q1
              rw [e2] at q1
              simp only [if_true] at q1
              exact q1.1
            exact ⟨y1, f', fd', _, q1', q2, q4 base⟩
          · obtain ⟨y1, y2, r', e1, e2⟩ := g.mes m c i hm
            obtain ⟨f', fd', q1, q2, q3, q5, q4⟩ := ih _ r' e1
            have q1' : Meth K (ca c) m f' := by
              unfold locd at q1
              rw [e2] at q1
              simp only [if_neg y2] at q1
              exact q1
            exact ⟨y1, f', fd', _, q1', q2, q4 base⟩
        have hN : ds.length ≤ r.N.length := by
          have := congrArg List.length ok.sc.pre
          rw [List.length_take] at this
          have hl' : ds.length = r.ps.length := hl
          omega
        refine ⟨_, body_ok (fun s a hs => cpS_ok (w := wt) 60 60 _ _ ck (passes_of rfl) s a hs) ok.bd, enter r.fn ds, S, φ, r1, ?_, rs, e1, go1⟩
        exact RVs.start rv (by show r.N.length - ds.length = r.N.length - vs.length; rw [rv.length])
      · cases e
end Mx
set_option Elab.async false
set_option linter.all false
set_option maxRecDepth 100000
set_option maxHeartbeats 8000000
/-! a law's end: from the module's table and the machine's answer -/
namespace Mx
open PySem PySem.Spec PySem.Calls PyProof.Rows L2
/-- a heap in which at most the script is tracked -/
structure Lone (P : Program) (w : World) (K : PySem.W.Frag) (h : Heap) (a : Addr) (xs : List V) (H : Hp) : Prop where
  one : ∀ b, H b = none ∨ (b = a ∧ K.lookup a = none ∧ ∃ o, H b = some (.frz o (.lst xs)))
  seq : FzL K H a xs
  hok : HOk P w H h
theorem lone_mk {P : Program} {w : World} {K : PySem.W.Frag} {h : Heap} {a : Addr} {vs : List Value} {ns : List Int} (KX : K.In h) (ha : h.get? a = some { cls := .type "list", data := .seq vs.toArray })
    (hi : PyProof.Rows.IntsAre vs ns) (hl : ns.length ≤ sizeLine) : ∃ H, Lone P w K h a (ns.map V.int) H := by
  have rv := vals_ints hi
  have sz : vs.toArray.size ≤ sizeLine := by rw [List.size_toArray, hi.length]; exact hl
  cases hk : K.lookup a with
  | some o =>
    have e : o = { cls := .type "list", data := .seq vs.toArray } := by
      have e1 := KX a o hk
      rw [ha] at e1
      exact (Option.some.inj e1).symm
    subst e
    refine ⟨fun _ => none, fun _ => .inl rfl, .inl (.inr ⟨_, vs.toArray, _, hk, rfl, rfl, rfl, sz, by simpa using rv⟩), fun b u z => nomatch z⟩
  | none =>
    have at_a : ∀ b, b = a → (if b = a then some (HO.frz { cls := .type "list", data := .seq vs.toArray } (.lst (ns.map V.int))) else none) = some (HO.frz { cls := .type "list", data := .seq vs.toArray } (.lst (ns.map V.int))) := fun b e => if_pos e
    refine ⟨fun b => if b = a then some (HO.frz { cls := .type "list", data := .seq vs.toArray } (.lst (ns.map V.int))) else none, fun b => ?_, .inr ⟨_, at_a a rfl⟩, fun b u z => ?_⟩
    · by_cases hb : b = a
      · exact .inr ⟨hb, hb ▸ hk, _, at_a b hb⟩
      · exact .inl (if_neg hb)
    · by_cases hb : b = a
      · have z1 := (at_a b hb).symm.trans z
        cases z1
        subst hb
        refine ⟨ha, ?_, vs, _, rv, ha⟩
        rw [List.length_map]
        exact hl
      · (have z1 := (if_neg hb).symm.trans z)
        cases z1
theorem lone_call {P : Program} {w : World} {K : PySem.W.Frag} {mg mb : Str → Option Value} {k : Nat} {fa a : Addr} {fd : FuncData} {x : Str} {sp : Sp} {s₁ : Shared} {vs : List Value} {ns : List Int} {H : Hp}
    (KX : K.In s₁.heap) (hns : s₁.heap.Ns mainGlobals mg) (hb : s₁.heap.Ns builtinsNs mb) (hbb : ∀ y : Str, y ≠ "__name__" → mb y = bootBuiltins y) (hlim : s₁.heap.NoLimit) (hg : s₁.gens = #[])
    (ha : s₁.heap.get? a = some { cls := .type "list", data := .seq vs.toArray }) (L : Lone P w K s₁.heap a (ns.map V.int) H) (hr : Room k callerA)
    (F : ∀ base : Heap, FnG P w K mg base (L2.CX P w) k fa fd [x] sp) (hbind : Binds K fd [x] [])
    (hsp : sp [.ref a] H (fun v _ => v = .bl true) fun _ _ _ => False) :
    codeAny (model P w) callerA (.call (.ref fa) ⟨[.ref a], []⟩)
      (fun r s' => r = .ok (.ret (.bool true)) ∧ OldK s₁.heap s'.heap ∧ s'.os = s₁.os ∧ AllBare s'.gens) s₁ := by
  have up : ∀ {b : Addr} {o : Obj}, s₁.heap.get? b = some o → H b = none → (hidT s₁.heap H).get? b = some o := fun e n => hidT_get e n
  have dict : ∀ {b : Addr} {m : Str → Option Value}, s₁.heap.Ns b m → (hidT s₁.heap H).Ns b m := by
    rintro b m ⟨o, es, ep, e, d, r⟩
    refine ⟨o, es, ep, up e ?_, d, r⟩
    rcases L.one b with q | ⟨rfl, _, _⟩
    · exact q
    · rw [ha] at e
      cases e
      cases d
  have kin : K.In (hidT s₁.heap H) := fun b o e => up (KX b o e) <| by
    rcases L.one b with q | ⟨rfl, q, _⟩
    · exact q
    · rw [q] at e
      cases e
  have nl : (hidT s₁.heap H).NoLimit := by
    obtain ⟨mc, h1, h2⟩ := hlim
    exact ⟨mc, dict h1, h2⟩
  have e0 : Env0 P w K mg (hidT s₁.heap H) callerA [] s₁ H := by
    refine ⟨rfl, ⟨kin, dict hns, ⟨mb, dict hb, hbb⟩, nl⟩, fun b o e => of_hidT e, Nat.le_of_eq (hidT_size _ _), trivial, fun b z => ?_, L.hok, .of_eq hg⟩
    have z' : b ∈ ([] : List Addr) := z
    cases z'
  refine codeAny_mono ((F _).go callerA [] s₁ H ⟨[.ref a], []⟩ [.ref a] [.ref a] _ _ rfl hr e0 (hbind s₁ [.ref a] KX rfl) (.cons rfl .nil) hsp) fun r s' h => ?_
  match r, h with
  | .error e, h =>
    (obtain ⟨_, _, _, _, _, _, _, _, _, _, _, _, z⟩ := h)
    exact z.elim
  | .ok (.ret u), h =>
    (obtain ⟨v, H', os, bare, un, hok', r', q⟩ := h)
    have q' : v = .bl true := q
    subst q'
    (obtain rfl : u = Value.bool true := r')
    (refine ⟨rfl, OldK.of_keep fun b o e => ?_, os, bare⟩)
    have no : b ∉ ([] : List Addr) := by simp
    rcases L.one b with q | ⟨_, _, o', q⟩
    · exact un.keep b o e q no no
    · have e1 := (L.hok b _ q).1
      have e2 := (hok' b _ (un.frzs b _ _ q)).1
      rw [e] at e1
      cases e1
      exact e2
  | .ok .next, h => exact False.elim h
  | .ok .brk, h => exact False.elim h
  | .ok .cont, h => exact False.elim h
theorem ints_rvs {K : PySem.W.Frag} {φ : List Addr} {H : Hp} : ∀ ns : List Int, RVs K φ H (ns.map D.int) (ns.map V.int)
  | [] => .nil
  | z :: zs => .cons (.int z) (ints_rvs zs)
/-- the goal behind a head by facts -/
theorem law_end {l : PySem.W.OpenLaw} {n k wt i : Nat} {q : Program} {loose : List Str} {XP : (Str → Option Value) → Heap → Prop} {YP : World → Heap → Prop} {d : DefRec} {T : Tb} {G : List D} {rows : List Rw} {r : Rw} {x : Str}
    (hn : l.most = some n) (hn2 : n ≤ sizeLine) (hdf : d.params.defaults = []) (hr : Room (2 * k) callerA) (hi : rows[i]? = some r) (how : r.own = none) (hx : r.x = d.name) (hp : r.ps = [x])
    (F : ∀ (w : World) (mg : Str → Option Value) (h : Heap), YP w h → h.Ns mainGlobals mg → ∃ (K : PySem.W.Frag) (ca : Nat → Addr), K.In h ∧ Gr T l.prog w K ca mg G rows)
    (M : ∀ ns : List Int, ns.length ≤ n → (∀ z ∈ ns, Builtin.Int.intBits z ≤ 1048576) → ∃ S', run (rows.map Rw.fn) G wt k i [.ref 0] [.frz (ns.map D.int)] = some (.ok (.bl true) S')) :
    PySem.W.WalkO q loose XP YP l.row.toRowW d []
      (fun f vs => PySem.call f vs) := by
  refine Att.attach_callB hn hdf fun w s₀ s₁ mg mb fa o pm cd doc a vs ns GG Y ho hd hcd hmg hobj hints hlen hbits hg => ?_
  obtain ⟨K, ca, KX, g⟩ := F w mg _ Y GG.T.g
  obtain ⟨f, fd, h1, h2, h3, _, h4⟩ := table (P := l.prog) (w := w) (ca := ca) (wt := wt) g k i r hi
  have h1 : mg r.x = some (.ref f) := by
    unfold locd at h1
    rw [how] at h1
    exact h1
  rw [hx, hmg] at h1
  cases h1
  rw [hp] at h2 h4
  obtain ⟨H, L⟩ := lone_mk (P := l.prog) (w := w) KX hobj hints (Nat.le_trans hlen hn2)
  obtain ⟨S', hM⟩ := M ns hlen hbits
  refine lone_call KX GG.T.g GG.T.b GG.T.builtins GG.T.nolimit hg hobj L hr h4 h2 ?_
  · refine ⟨[a], [.frz (ns.map D.int)], [.ref 0], _, .cons (.ref rfl) .nil, ⟨rfl, fun i o b e1 e2 => ?_, fun i j o u b e1 e2 m1 m2 e3 e4 => ?_⟩, hM, fun φ1 H1 v le rs rv => ?_⟩
    · match i, e1, e2 with
      | 0, e1, e2 =>
        cases e1
        cases e2
        refine ⟨_, L.seq, ?_⟩
        exact ints_rvs ns
      | i + 1, e1, e2 => simp at e1
    · match i, j, e1, e2 with
      | 0, 0, _, _ => rfl
      | i + 1, _, e1, _ => simp at e1
      | _, j + 1, _, e2 => simp at e2
    · cases rv
      rfl
end Mx
set_option Elab.async false
set_option linter.all false
set_option maxRecDepth 100000
set_option maxHeartbeats 8000000
/-! reading the machine: what is wanted behind a step -/
namespace Mx
open PySem L2
/-- what stands under it is not looked into -/
structure Tok {α : Type} (a : α) : Type where
def wp {α : Type} (m : Mo α) (Q : α → Sto → Prop) (E : Exn → Sto → Prop) (_ : Tok (Q, E) := ⟨⟩) : Prop := match m with
  | some (.ok a S) => Q a S
  | some (.er x S) => E x S
  | none => False
def wpS (m : MoS) (Q : Fl → Rho → Sto → Prop) (E : Exn → Sto → Prop) (_ : Tok (Q, E) := ⟨⟩) : Prop := match m with
  | some (.ok f ρ S) => Q f ρ S
  | some (.er x _ S) => E x S
  | none => False
def nE : Exn → Sto → Prop := fun _ _ => False
section
variable {α β : Type} {Q Q' : α → Sto → Prop} {E E' : Exn → Sto → Prop} {m : Mo α} {Z Z' : Fl → Rho → Sto → Prop} {s : MoS}
@[simp] theorem wp_ok {a : α} {S : Sto} : wp (some (.ok a S)) Q E = Q a S := propext ⟨fun h => h, fun h => h⟩
@[simp] theorem wp_er {x : Exn} {S : Sto} : wp (some (.er x S) : Mo α) Q E = E x S := propext ⟨fun h => h, fun h => h⟩
@[simp] theorem wp_none : wp (none : Mo α) Q E = False := propext ⟨fun h => h, fun h => h⟩
@[simp] theorem wp_bnd {Q : β → Sto → Prop} {f : α → Sto → Mo β} : wp (bnd m f) Q E = wp m (fun a S => wp (f a S) Q E) E := by
  cases m with
  | none => rfl
  | some r => cases r <;> rfl
@[simp] theorem wp_lft {o : Option (α × Sto)} : wp (lft o) Q E = ∃ a S, o = some (a, S) ∧ Q a S := by
  rcases o with _ | ⟨a, S⟩
  · simp [lft]
  · simp only [lft, wp_ok, Option.some.injEq, Prod.mk.injEq]
    exact propext ⟨fun h => ⟨a, S, ⟨rfl, rfl⟩, h⟩, fun ⟨_, _, ⟨h1, h2⟩, h⟩ => by subst h1; subst h2; exact h⟩
@[simp] theorem wp_lf0 {o : Option α} {S : Sto} : wp (lf0 o S) Q E = ∃ a, o = some a ∧ Q a S := by
  cases o with
  | none => simp [lf0]
  | some a => simp [lf0]
@[simp] theorem wp_if {c : Prop} [Decidable c] {m m' : Mo α} : wp (if c then m else m') Q E = if c then wp m Q E else wp m' Q E := by split <;> rfl
theorem wpE (h : ∀ a S, Q a S = Q' a S) : wp m Q E = wp m Q' E := by
  have e : Q = Q' := funext fun a => funext fun S => h a S
  subst e
  rfl
theorem wp_mono (h : wp m Q E) (hq : ∀ a S, Q a S → Q' a S) (he : ∀ x S, E x S → E' x S) : wp m Q' E' := by
  cases m with
  | none => exact h
  | some r => cases r with
    | ok a S => exact hq a S h
    | er x S => exact he x S h
theorem wp_use (h : wp m Q nE) (hq : ∀ a S, Q a S → Q' a S) : wp m Q' E' := wp_mono h hq fun _ _ z => z.elim
theorem wp_get (h : wp m Q nE) : ∃ a S, m = some (.ok a S) ∧ Q a S := by
  cases m with
  | none => exact h.elim
  | some r => cases r with
    | ok a S => exact ⟨a, S, rfl, h⟩
    | er x S => exact h.elim
@[simp] theorem wpS_ok {f : Fl} {ρ : Rho} {S : Sto} : wpS (some (.ok f ρ S)) Z E = Z f ρ S := propext ⟨fun h => h, fun h => h⟩
@[simp] theorem wpS_er {x : Exn} {ρ : Rho} {S : Sto} : wpS (some (.er x ρ S)) Z E = E x S := propext ⟨fun h => h, fun h => h⟩
@[simp] theorem wpS_none : wpS none Z E = False := propext ⟨fun h => h, fun h => h⟩
@[simp] theorem wpS_bnS {ρ : Rho} {f : α → Sto → MoS} : wpS (bnS ρ m f) Z E = wp m (fun a S => wpS (f a S) Z E) E := by
  cases m with
  | none => rfl
  | some r => cases r <;> rfl
@[simp] theorem wpS_nxS {o : Option (Rho × Sto)} : wpS (nxS o) Z E = ∃ ρ S, o = some (ρ, S) ∧ Z .nx ρ S := by
  rcases o with _ | ⟨a, S⟩
  · simp [nxS]
  · simp only [nxS, wpS_ok, Option.some.injEq, Prod.mk.injEq]
    exact propext ⟨fun h => ⟨a, S, ⟨rfl, rfl⟩, h⟩, fun ⟨_, _, ⟨h1, h2⟩, h⟩ => by subst h1; subst h2; exact h⟩
@[simp] theorem wpS_if {c : Prop} [Decidable c] {m m' : MoS} : wpS (if c then m else m') Z E = if c then wpS m Z E else wpS m' Z E := by split <;> rfl
theorem wpSE (h : ∀ f ρ S, Z f ρ S = Z' f ρ S) : wpS s Z E = wpS s Z' E := by
  have e : Z = Z' := funext fun a => funext fun b => funext fun S => h a b S
  subst e
  rfl
theorem wpS_mono (h : wpS s Z E) (hq : ∀ f ρ S, Z f ρ S → Z' f ρ S) (he : ∀ x S, E x S → E' x S) : wpS s Z' E' := by
  cases s with
  | none => exact h
  | some r => cases r with
    | ok f ρ S => exact hq f ρ S h
    | er x ρ S => exact he x S h
theorem wpS_use (h : wpS s Z nE) (hq : ∀ f ρ S, Z f ρ S → Z' f ρ S) : wpS s Z' E' := wpS_mono h hq fun _ _ z => z.elim
/-- what follows a statement -/
def aft (k : Rho → Sto → Prop) (Z : Fl → Rho → Sto → Prop) (f : Fl) (ρ : Rho) (S : Sto) : Prop := match f with
  | .nx => k ρ S
  | f => Z f ρ S
@[simp] theorem aft_nx {k : Rho → Sto → Prop} {ρ : Rho} {S : Sto} : aft k Z .nx ρ S = k ρ S := propext ⟨fun h => h, fun h => h⟩
@[simp] theorem aft_ret {k : Rho → Sto → Prop} {ρ : Rho} {S : Sto} {d : D} : aft k Z (.ret d) ρ S = Z (.ret d) ρ S := propext ⟨fun h => h, fun h => h⟩
@[simp] theorem aft_brk {k : Rho → Sto → Prop} {ρ : Rho} {S : Sto} : aft k Z .brk ρ S = Z .brk ρ S := propext ⟨fun h => h, fun h => h⟩
@[simp] theorem aft_ct {k : Rho → Sto → Prop} {ρ : Rho} {S : Sto} : aft k Z .ct ρ S = Z .ct ρ S := propext ⟨fun h => h, fun h => h⟩
section
variable {R : Nat → List D → Sto → Mo D} {G : List D} {w : Nat} {ρ : Rho} {S : Sto}
@[simp] theorem exs_nil : wpS (exs R G w .nil ρ S) Z E = Z .nx ρ S := by simp [exs]
/-- the statements that are left -/
def kon (R : Nat → List D → Sto → Mo D) (G : List D) (w : Nat) (r : Sms) (Z : Fl → Rho → Sto → Prop) (E : Exn → Sto → Prop) (ρ : Rho) (S : Sto) : Prop := wpS (exs R G w r ρ S) Z E
@[simp] theorem kon_go {r : Sms} : kon R G w r Z E ρ S = wpS (exs R G w r ρ S) Z E := propext ⟨fun h => h, fun h => h⟩
@[simp] theorem exs_cons {a : Sm} {r : Sms} : wpS (exs R G w (.cons a r) ρ S) Z E = wpS (ex R G w a ρ S) (aft (kon R G w r Z E) Z) E := by
  simp only [exs]
  cases ex R G w a ρ S with
  | none => rfl
  | some o => cases o with
    | ok f ρ S => cases f <;> rfl
    | er x ρ S => rfl
end
/-- a body without its first statements -/
def tl : Nat → Sms → Sms
  | 0, s => s
  | _ + 1, .nil => .nil
  | n + 1, .cons _ r => tl n r
/-- what leaves a def -/
def lvQ (Q : D → Sto → Prop) (f : Fl) (_ : Rho) (S : Sto) : Prop := match f with
  | .nx => Q .non S
  | .ret d => Q d S
  | _ => False
@[simp] theorem lvQ_nx {Q : D → Sto → Prop} {ρ : Rho} {S : Sto} : lvQ Q .nx ρ S = Q .non S := propext ⟨fun h => h, fun h => h⟩
@[simp] theorem lvQ_ret {Q : D → Sto → Prop} {ρ : Rho} {S : Sto} {d : D} : lvQ Q (.ret d) ρ S = Q d S := propext ⟨fun h => h, fun h => h⟩
@[simp] theorem wp_leave {Q : D → Sto → Prop} : wp (leave s) Q E = wpS s (lvQ Q) E := by
  cases s with
  | none => rfl
  | some o => cases o with
    | ok f ρ S => cases f <;> rfl
    | er x ρ S => rfl
/-- a call -/
theorem wp_run {Fs : List Fn} {G : List D} {w k i : Nat} {ds : List D} {S : Sto} {F : Fn} {Q : D → Sto → Prop} (hF : Fs[i]? = some F) (hl : ds.length = F.np)
    (h : wpS (exs (run Fs G w k) G w F.body (enter F ds) S) (lvQ Q) E) : wp (run Fs G w (k + 1) i ds S) Q E := by
  simp only [run, hF, hl, if_true, wp_leave]
  exact h
/-! ### loops -/
/-- what a loop's body is read by -/
def lpQ (I : Rho → Sto → Prop) (Z : Fl → Rho → Sto → Prop) (f : Fl) (ρ : Rho) (S : Sto) : Prop := match f with
  | .nx => I ρ S
  | .ct => I ρ S
  | .brk => Z .nx ρ S
  | .ret d => Z (.ret d) ρ S
@[simp] theorem lpQ_nx {I : Rho → Sto → Prop} {ρ : Rho} {S : Sto} : lpQ I Z .nx ρ S = I ρ S := propext ⟨fun h => h, fun h => h⟩
@[simp] theorem lpQ_ct {I : Rho → Sto → Prop} {ρ : Rho} {S : Sto} : lpQ I Z .ct ρ S = I ρ S := propext ⟨fun h => h, fun h => h⟩
@[simp] theorem lpQ_brk {I : Rho → Sto → Prop} {ρ : Rho} {S : Sto} : lpQ I Z .brk ρ S = Z .nx ρ S := propext ⟨fun h => h, fun h => h⟩
@[simp] theorem lpQ_ret {I : Rho → Sto → Prop} {ρ : Rho} {S : Sto} {d : D} : lpQ I Z (.ret d) ρ S = Z (.ret d) ρ S := propext ⟨fun h => h, fun h => h⟩
/-- a loop over items: I stands before turn i -/
theorem forL_items {t : Tg} {l : List D} {body : Rho → Sto → MoS} (I : Nat → Rho → Sto → Prop)
    (hI : ∀ i ρ S d, l[i]? = some d → I i ρ S → ∃ ρ1, asgT t d ρ = some ρ1 ∧ wpS (body ρ1 S) (lpQ (I (i + 1)) Z) E) (hZ : ∀ ρ S, I l.length ρ S → Z .nx ρ S) :
    ∀ (n i : Nat) (ρ : Rho) (S : Sto), l.length + 1 ≤ n + i → i ≤ l.length → I i ρ S → wpS (forL t (.items l) body n i ρ S) Z E := by
  intro n
  induction n with
  | zero => intro i ρ S h1 h2; omega
  | succ n ih =>
    intro i ρ S h1 h2 h
    rw [forL]
    simp only [nxt]
    cases q : l[i]? with
    | none =>
      have : i = l.length := by
        have := List.getElem?_eq_none_iff.mp q
        omega
      subst this
      exact hZ _ _ h
    | some d =>
      have lt : i < l.length := (List.getElem?_eq_some_iff.mp q).1
      obtain ⟨ρ1, e, hb⟩ := hI i ρ S d q h
      simp only [e]
      cases q2 : body ρ1 S with
      | none => rw [q2] at hb; exact hb.elim
      | some o =>
        rw [q2] at hb
        cases o with
        | er x ρ2 S2 => exact hb
        | ok f ρ2 S2 => cases f with
          | nx => exact ih (i + 1) ρ2 S2 (by omega) lt hb
          | ct => exact ih (i + 1) ρ2 S2 (by omega) lt hb
          | brk => exact hb
          | ret d => exact hb
/-- .. over a list that may change -/
theorem forL_live {t : Tg} {r : Nat} {l : List D} {body : Rho → Sto → MoS} (I : Nat → Rho → Sto → Prop) (hL : ∀ i ρ S, I i ρ S → lstOf S r = some l)
    (hI : ∀ i ρ S d, l[i]? = some d → I i ρ S → ∃ ρ1, asgT t d ρ = some ρ1 ∧ wpS (body ρ1 S) (lpQ (I (i + 1)) Z) E) (hZ : ∀ ρ S, I l.length ρ S → Z .nx ρ S) :
    ∀ (n i : Nat) (ρ : Rho) (S : Sto), l.length + 1 ≤ n + i → i ≤ l.length → I i ρ S → wpS (forL t (.live r) body n i ρ S) Z E := by
  intro n
  induction n with
  | zero => intro i ρ S h1 h2; omega
  | succ n ih =>
    intro i ρ S h1 h2 h
    rw [forL]
    simp only [nxt, hL i ρ S h, Option.map_some]
    cases q : l[i]? with
    | none =>
      have : i = l.length := by
        have := List.getElem?_eq_none_iff.mp q
        omega
      subst this
      exact hZ _ _ h
    | some d =>
      have lt : i < l.length := (List.getElem?_eq_some_iff.mp q).1
      obtain ⟨ρ1, e, hb⟩ := hI i ρ S d q h
      simp only [e]
      cases q2 : body ρ1 S with
      | none => rw [q2] at hb; exact hb.elim
      | some o =>
        rw [q2] at hb
        cases o with
        | er x ρ2 S2 => exact hb
        | ok f ρ2 S2 => cases f with
          | nx => exact ih (i + 1) ρ2 S2 (by omega) lt hb
          | ct => exact ih (i + 1) ρ2 S2 (by omega) lt hb
          | brk => exact hb
          | ret d => exact hb
/-- a comprehension over items, every item taken: A i S acc stands before turn i -/
theorem lcL_items {el : Rho → Sto → Mo D} {t : Tg} {l : List D} {ρ : Rho} {k : Nat} {Q : D → Sto → Prop} (A : Nat → Sto → Prop)
    (hA : ∀ i S d, l[i]? = some d → A i S → ∃ ρ1, asgT t d ρ = some ρ1 ∧ wp (el ρ1 S) (fun y S2 => ∃ acc, mutOf S2 k = some acc ∧ acc.length < LIM ∧ A (i + 1) (S2.set k (.lst (acc ++ [y])))) nE) (hQ : ∀ S, A l.length S → Q (.ref k) S) :
    ∀ (n i : Nat) (S : Sto), l.length + 1 ≤ n + i → i ≤ l.length → A i S → wp (lcL el (fun _ S => some (.ok (.bl true) S)) t (.items l) ρ k n i S) Q E := by
  intro n
  induction n with
  | zero => intro i S h1 h2; omega
  | succ n ih =>
    intro i S h1 h2 h
    rw [lcL]
    simp only [nxt]
    cases q : l[i]? with
    | none =>
      have : i = l.length := by
        have := List.getElem?_eq_none_iff.mp q
        omega
      subst this
      exact hQ _ h
    | some d =>
      have lt : i < l.length := (List.getElem?_eq_some_iff.mp q).1
      obtain ⟨ρ1, e, hb⟩ := hA i S d q h
      simp only [e]
      obtain ⟨y, S2, e2, acc, e3, e4, e5⟩ := wp_get hb
      simp only [e2, e3, e4, if_true]
      exact ih (i + 1) _ (by omega) lt e5
theorem lcL_live {el : Rho → Sto → Mo D} {t : Tg} {r : Nat} {l : List D} {ρ : Rho} {k : Nat} {Q : D → Sto → Prop} (A : Nat → Sto → Prop) (hL : ∀ i S, A i S → lstOf S r = some l)
    (hA : ∀ i S d, l[i]? = some d → A i S → ∃ ρ1, asgT t d ρ = some ρ1 ∧ wp (el ρ1 S) (fun y S2 => ∃ acc, mutOf S2 k = some acc ∧ acc.length < LIM ∧ A (i + 1) (S2.set k (.lst (acc ++ [y])))) nE) (hQ : ∀ S, A l.length S → Q (.ref k) S) :
    ∀ (n i : Nat) (S : Sto), l.length + 1 ≤ n + i → i ≤ l.length → A i S → wp (lcL el (fun _ S => some (.ok (.bl true) S)) t (.live r) ρ k n i S) Q E := by
  intro n
  induction n with
  | zero => intro i S h1 h2; omega
  | succ n ih =>
    intro i S h1 h2 h
    rw [lcL]
    simp only [nxt, hL i S h, Option.map_some]
    cases q : l[i]? with
    | none =>
      have : i = l.length := by
        have := List.getElem?_eq_none_iff.mp q
        omega
      subst this
      exact hQ _ h
    | some d =>
      have lt : i < l.length := (List.getElem?_eq_some_iff.mp q).1
      obtain ⟨ρ1, e, hb⟩ := hA i S d q h
      simp only [e]
      obtain ⟨y, S2, e2, acc, e3, e4, e5⟩ := wp_get hb
      simp only [e2, e3, e4, if_true]
      exact ih (i + 1) _ (by omega) lt e5
end
end Mx
set_option Elab.async false
set_option linter.all false
set_option maxRecDepth 100000
set_option maxHeartbeats 8000000
set_option exponentiation.threshold 8000
/-! reading the machine, step by step -/
namespace Mx
open PySem L2
def opt {α : Type} (o : Option α) (Q : α → Prop) (_ : Tok Q := ⟨⟩) : Prop := match o with
  | some a => Q a
  | none => False
/-- a choice by a truth value -/
def cas (x : D) (A B : Prop) (_ : Tok (A, B) := ⟨⟩) : Prop := match x with
  | .bl true => A
  | .bl false => B
  | _ => False
def vfin (m : Bool) (Q : D → Sto → Prop) (d : D) (S : Sto) : Prop := if m then opt (tru S d) fun b => Q (.bl b) S else Q d S
section
variable {α β : Type} {Q Q' : α → Sto → Prop} {E E' : Exn → Sto → Prop} {m m' : Mo α} {Z Z' : Fl → Rho → Sto → Prop} {s s' : MoS} {P : α → Prop}
@[simp] theorem opt_some {a : α} : opt (some a) P = P a := propext ⟨fun h => h, fun h => h⟩
@[simp] theorem opt_none : opt none P = False := propext ⟨fun h => h, fun h => h⟩
@[simp] theorem opt_map {o : Option β} {f : β → α} : opt (o.map f) P = opt o fun b => P (f b) := by cases o <;> rfl
@[simp] theorem opt_bind {o : Option β} {f : β → Option α} : opt (o.bind f) P = opt o fun b => opt (f b) P := by cases o <;> rfl
@[simp] theorem opt_cond {c : Prop} [Decidable c] {a : α} : opt (if c then some a else none) P = (c ∧ P a) := by
  by_cases h : c
  · simp [h]
  · simp [h]
@[simp] theorem opt_cond2 {c : Prop} [Decidable c] {a : α} : opt (if c then none else some a) P = (¬ c ∧ P a) := by
  by_cases h : c
  · simp [h]
  · simp [h]
theorem opt_if {c : Prop} [Decidable c] {o o' : Option α} : opt (if c then o else o') P = if c then opt o P else opt o' P := by split <;> rfl
theorem opt_get {o : Option α} (h : opt o P) : ∃ a, o = some a ∧ P a := by
  cases o with
  | none => exact h.elim
  | some a => exact ⟨a, rfl, h⟩
@[simp] theorem cas_true {A B : Prop} : cas (.bl true) A B = A := propext ⟨fun h => h, fun h => h⟩
@[simp] theorem cas_false {A B : Prop} : cas (.bl false) A B = B := propext ⟨fun h => h, fun h => h⟩
@[simp] theorem cas_not {A B : Prop} {b : Bool} : cas (.bl (!b)) A B = cas (.bl b) B A := by cases b <;> rfl
theorem cas_dec {p : Prop} [Decidable p] {A B : Prop} (h : p → A) (h' : ¬ p → B) : cas (.bl (decide p)) A B := by
  by_cases z : p
  · simp [z]
    exact h z
  · simp [z]
    exact h' z
theorem cas_beq {x y : Int} {A B : Prop} (h : x = y → A) (h' : x ≠ y → B) : cas (.bl (x == y)) A B := by
  by_cases z : x = y
  · subst z
    simp
    exact h rfl
  · rw [show (x == y) = false from beq_false_of_ne z]
    exact h' z
theorem cas_bne {x y : Int} {A B : Prop} (h : x = y → B) (h' : x ≠ y → A) : cas (.bl (x != y)) A B := by
  show cas (.bl (!(x == y))) A B
  rw [cas_not]
  exact cas_beq h h'
theorem cas_bl {x : Bool} {A B : Prop} (h : x = true → A) (h' : x = false → B) : cas (.bl x) A B := by
  cases x
  · exact h' rfl
  · exact h rfl
@[simp] theorem vfin_f {Q : D → Sto → Prop} {d : D} {S : Sto} : vfin false Q d S = Q d S := propext ⟨fun h => h, fun h => h⟩
@[simp] theorem vfin_f0 {Q : D → Sto → Prop} : vfin false Q = Q := funext fun _ => funext fun _ => propext ⟨fun h => h, fun h => h⟩
@[simp] theorem vfin_t {Q : D → Sto → Prop} {d : D} {S : Sto} : vfin true Q d S = opt (tru S d) fun b => Q (.bl b) S := propext ⟨fun h => h, fun h => h⟩
@[simp] theorem wp_fin {b : Bool} {m : Mo D} {Q : D → Sto → Prop} : wp (fin b m) Q E = wp m (vfin b Q) E := by
  cases b
  · rfl
  · simp only [fin, if_true, wp_bnd]
    refine wpE fun d S => ?_
    simp only [vfin_t]
    cases tru S d <;> rfl
theorem wp_lft2 {o : Option (α × Sto)} : wp (lft o) Q E = opt o fun p => Q p.1 p.2 := by
  rcases o with _ | ⟨a, S⟩ <;> rfl
theorem wpS_nxS2 {o : Option (Rho × Sto)} : wpS (nxS o) Z E = opt o fun p => Z .nx p.1 p.2 := by
  rcases o with _ | ⟨a, S⟩ <;> rfl
theorem wp_lf02 {o : Option α} {S : Sto} : wp (lf0 o S) Q E = opt o fun a => Q a S := by
  cases o <;> rfl
theorem wp_opt {o : Option α} {f : α → Mo β} {g : Mo β} {Q : β → Sto → Prop} (hg : g = none) : wp (match o with
  | some a => f a
  | none => g) Q E = opt o fun a => wp (f a) Q E := by
  subst hg
  cases o <;> rfl
end
section
variable {E : Exn → Sto → Prop} {Q : D → Sto → Prop} {QL : List D → Sto → Prop} {Z : Fl → Rho → Sto → Prop}
variable {R : Nat → List D → Sto → Mo D} {G : List D} {w : Nat} {ρ : Rho} {S : Sto} {m : Bool} {a b c : Ex} {as : Exs}
@[simp] theorem wp_var {i : Nat} : wp (ev R G (.var i) m ρ S) Q E = opt ρ[i]?.join fun d => vfin m Q d S := by
  simp only [ev, wp_fin]
  rcases ρ[i]? with _ | _ | d <;> rfl
@[simp] theorem wp_cst {d : D} : wp (ev R G (.cst d) m ρ S) Q E = vfin m Q d S := by
  simp only [ev, wp_fin, wp_ok]
@[simp] theorem wp_glb {i : Nat} : wp (ev R G (.glb i) m ρ S) Q E = opt G[i]? fun d => vfin m Q d S := by
  simp only [ev, wp_fin, wp_lf02]
@[simp] theorem wp_bin {o : B2} : wp (ev R G (.bin o a b) m ρ S) Q E = wp (ev R G a false ρ S) (fun x S1 => wp (ev R G b false ρ S1) (fun y S2 => opt (op2 o x y S2) fun p => vfin m Q p.1 p.2) E) E := by
  simp only [ev, wp_fin, Bool.false_eq_true, if_false]
  repeat (first | (refine wpE fun _ _ => ?_) | (simp only [wp_bnd, wp_lft2, wp_lf02, opt_map, wpS_bnS, wpS_nxS2, wpS_ok, wp_ok]))
def ngD : D → Option D
  | .int i => some (.int (-i))
  | _ => none
@[simp] theorem wp_neg : wp (ev R G (.neg a) m ρ S) Q E = wp (ev R G a false ρ S) (fun x S1 => opt (ngD x) fun d => vfin m Q d S1) E := by
  simp only [ev, wp_fin, wp_bnd]
  refine wpE fun d S => ?_
  cases d <;> rfl
def ntD : D → Option D
  | .bl b => some (.bl (!b))
  | _ => none
@[simp] theorem wp_nt_t : wp (ev R G (.nt a) true ρ S) Q E = wp (ev R G a true ρ S) (fun x S1 => opt (ntD x) fun d => Q d S1) E := by
  simp only [ev, if_true, wp_bnd]
  refine wpE fun d S => ?_
  cases d <;> rfl
@[simp] theorem wp_nt_f : wp (ev R G (.nt a) false ρ S) Q E = wp (ev R G a false ρ S) (fun x S1 => opt (tru S1 x) fun b => Q (.bl (!b)) S1) E := by
  simp only [ev, Bool.false_eq_true, if_false]
  repeat (first | (refine wpE fun _ _ => ?_) | (simp only [wp_bnd, wp_lft2, wp_lf02, opt_map, wpS_bnS, wpS_nxS2, wpS_ok, wp_ok]))
@[simp] theorem wp_cmp {o : Cm} : wp (ev R G (.cmp o a b) m ρ S) Q E = wp (ev R G a false ρ S) (fun x S1 => wp (ev R G b false ρ S1) (fun y S2 => opt (cm2 o x y S2) fun b => Q (.bl b) S2) E) E := by
  simp only [ev, Bool.false_eq_true, if_false]
  repeat (first | (refine wpE fun _ _ => ?_) | (simp only [wp_bnd, wp_lft2, wp_lf02, opt_map, wpS_bnS, wpS_nxS2, wpS_ok, wp_ok]))
@[simp] theorem wp_chn {o o' : Cm} : wp (ev R G (.chn o o' a b c) m ρ S) Q E = wp (ev R G a false ρ S) (fun x S1 => wp (ev R G b false ρ S1) (fun y S2 => opt (cm2 o x y S2) fun t =>
    cas (.bl t) (wp (ev R G c false ρ S2) (fun z S3 => opt (cm2 o' y z S3) fun b => Q (.bl b) S3) E) (Q (.bl false) S2)) E) E := by
  simp only [ev, wp_bnd]
  refine wpE fun x S1 => ?_
  simp only [wp_bnd]
  refine wpE fun y S2 => ?_
  cases cm2 o x y S2 with
  | none => rfl
  | some t =>
    cases t
    · rfl
    · simp only [wp_bnd, opt_some, cas_true]
      exact wpE fun z S3 => by simp only [wp_lf02, opt_map]
@[simp] theorem wp_an : wp (ev R G (.an a b) m ρ S) Q E = wp (ev R G a m ρ S) (fun x S1 => cas x (wp (ev R G b m ρ S1) Q E) (Q (.bl false) S1)) E := by
  simp only [ev, wp_bnd]
  refine wpE fun x S1 => ?_
  cases x with
  | bl t => cases t <;> rfl
  | _ => rfl
@[simp] theorem wp_or : wp (ev R G (.or a b) m ρ S) Q E = wp (ev R G a m ρ S) (fun x S1 => cas x (Q (.bl true) S1) (wp (ev R G b m ρ S1) Q E)) E := by
  simp only [ev, wp_bnd]
  refine wpE fun x S1 => ?_
  cases x with
  | bl t => cases t <;> rfl
  | _ => rfl
@[simp] theorem wp_ite : wp (ev R G (.ite c a b) false ρ S) Q E = wp (ev R G c true ρ S) (fun x S1 => cas x (wp (ev R G a false ρ S1) Q E) (wp (ev R G b false ρ S1) Q E)) E := by
  simp only [ev, Bool.false_eq_true, if_false, wp_bnd]
  refine wpE fun x S1 => ?_
  cases x with
  | bl t => cases t <;> rfl
  | _ => rfl
@[simp] theorem wp_cal {f : Nat} : wp (ev R G (.cal f as) m ρ S) Q E = wp (evs R G as ρ S) (fun ds S1 => wp (R f ds S1) (vfin m Q) E) E := by
  simp only [ev, wp_fin, wp_bnd]
@[simp] theorem wp_bi {b : Bi} : wp (ev R G (.bi b as) m ρ S) Q E = wp (evs R G as ρ S) (fun ds S1 => opt (bi1 b ds S1) fun p => vfin m Q p.1 p.2) E := by
  simp only [ev, wp_fin, Bool.false_eq_true, if_false]
  repeat (first | (refine wpE fun _ _ => ?_) | (simp only [wp_bnd, wp_lft2, wp_lf02, opt_map, wpS_bnS, wpS_nxS2, wpS_ok, wp_ok]))
@[simp] theorem wp_isi {t : Ty} : wp (ev R G (.isi a t) m ρ S) Q E = wp (ev R G a false ρ S) (fun x S1 => opt (isTy S1 x t) fun b => vfin m Q (.bl b) S1) E := by
  simp only [ev, wp_fin, Bool.false_eq_true, if_false]
  repeat (first | (refine wpE fun _ _ => ?_) | (simp only [wp_bnd, wp_lft2, wp_lf02, opt_map, wpS_bnS, wpS_nxS2, wpS_ok, wp_ok]))
@[simp] theorem wp_mth {k : Mt} : wp (ev R G (.mth k a as) m ρ S) Q E = wp (ev R G a false ρ S) (fun x S1 => isL S1 x = true ∧ wp (evs R G as ρ S1) (fun ds S2 => opt (Mx.mt1 k x ds S2) fun p => vfin m Q p.1 p.2) E) E := by
  simp only [ev, wp_fin, wp_bnd]
  refine wpE fun x S1 => ?_
  split
  · rename_i h
    simp only [h, true_and]
    repeat (first | (refine wpE fun _ _ => ?_) | (simp only [wp_bnd, wp_lft2, wp_lf02, opt_map, wpS_bnS, wpS_nxS2, wpS_ok, wp_ok]))
  · rename_i h
    simp only [h, Bool.false_eq_true, false_and, wp_none]
@[simp] theorem wp_idx : wp (ev R G (.idx a b) m ρ S) Q E = wp (ev R G a false ρ S) (fun x S1 => wp (ev R G b false ρ S1) (fun y S2 => opt (ix1 S2 x y) fun d => vfin m Q d S2) E) E := by
  simp only [ev, wp_fin, Bool.false_eq_true, if_false]
  repeat (first | (refine wpE fun _ _ => ?_) | (simp only [wp_bnd, wp_lft2, wp_lf02, opt_map, wpS_bnS, wpS_nxS2, wpS_ok, wp_ok]))
@[simp] theorem wp_rvs : wp (ev R G (.rvs a) m ρ S) Q E = wp (ev R G a false ρ S) (fun x S1 => opt (rv1 x S1) fun p => vfin m Q p.1 p.2) E := by
  simp only [ev, wp_fin]
  repeat (first | (refine wpE fun _ _ => ?_) | (simp only [wp_bnd, wp_lft2]))
@[simp] theorem wp_slc {lo hi : Exs} : wp (ev R G (.slc a lo hi) m ρ S) Q E = wp (ev R G a false ρ S) (fun x S1 => wp (evs R G lo ρ S1) (fun l S2 => (oInt l).isSome = true ∧ wp (evs R G hi ρ S2) (fun h S3 => opt (sl1 x l h S3) fun p => vfin m Q p.1 p.2) E) E) E := by
  simp only [ev, wp_fin, wp_bnd]
  refine wpE fun x S1 => ?_
  simp only [wp_bnd]
  refine wpE fun l S2 => ?_
  split
  · rename_i h
    simp only [h, true_and]
    repeat (first | (refine wpE fun _ _ => ?_) | (simp only [wp_bnd, wp_lft2, wp_lf02, opt_map, wpS_bnS, wpS_nxS2, wpS_ok, wp_ok]))
  · rename_i h
    simp only [h, Bool.false_eq_true, false_and, wp_none]
@[simp] theorem wp_tup : wp (ev R G (.tup as) m ρ S) Q E = wp (evs R G as ρ S) (fun ds S1 => ds.length ≤ LIM ∧ vfin m Q (.tup ds) S1) E := by
  simp only [ev, wp_fin, wp_bnd]
  refine wpE fun ds S1 => ?_
  by_cases h : ds.length ≤ LIM
  · simp [h]
  · simp [h]
@[simp] theorem wp_lst : wp (ev R G (.lst as) m ρ S) Q E = wp (evs R G as ρ S) (fun ds S1 => ds.length ≤ LIM ∧ vfin m Q (.ref S1.length) (S1 ++ [.lst ds])) E := by
  simp only [ev, wp_fin, wp_bnd]
  refine wpE fun ds S1 => ?_
  by_cases h : ds.length ≤ LIM
  · simp [h]
  · simp [h]
@[simp] theorem wp_lc {el : Ex} {own : List Nat} {t : Tg} {k : Ib} {ifs : Exs} : wp (ev R G (.lc el own t k as ifs) m ρ S) Q E = wp (evs R G as ρ S) (fun ds S1 => opt (it1 S1 k ds) fun j =>
    wp (lcL (fun ρ S => ev R G el false ρ S) (fun ρ S => evt R G ifs ρ S) t j (wipeD ρ own) S1.length (lenI j S1 + 1) 0 (S1 ++ [.lst []])) (vfin m Q) E) E := by
  simp only [ev, wp_fin, wp_bnd]
  refine wpE fun ds S1 => ?_
  cases it1 S1 k ds <;> rfl
@[simp] theorem wp_dg {kvs : List (Str × D)} : wp (ev R G (.dg kvs as) m ρ S) Q E = wp (evs R G as ρ S) (fun ds S1 => opt (dgt kvs ds) fun d => vfin m Q d S1) E := by
  simp only [ev, wp_fin]
  repeat (first | (refine wpE fun _ _ => ?_) | (simp only [wp_bnd, wp_lf02]))
@[simp] theorem wp_cad {f : Nat} {es : List D} : wp (ev R G (.cad f as es) m ρ S) Q E = wp (evs R G as ρ S) (fun ds S1 => wp (R f (ds ++ es) S1) (vfin m Q) E) E := by
  simp only [ev, wp_fin, wp_bnd]
@[simp] theorem wp_lz : wp (ev R G (.lz as) m ρ S) Q E = wp (evs R G as ρ S) (fun ds S1 => opt (lz1 ds S1) fun p => vfin m Q p.1 p.2) E := by
  simp only [ev, wp_fin, Bool.false_eq_true, if_false]
  repeat (first | (refine wpE fun _ _ => ?_) | (simp only [wp_bnd, wp_lft2]))
@[simp] theorem wp_o1 {o : O1} : wp (ev R G (.o1 o a) m ρ S) Q E = wp (ev R G a false ρ S) (fun x S1 => opt (op1 o x S1) fun p => vfin m Q p.1 p.2) E := by
  simp only [ev, wp_fin, Bool.false_eq_true, if_false]
  repeat (first | (refine wpE fun _ _ => ?_) | (simp only [wp_bnd, wp_lft2]))
@[simp] theorem wp_fld {f : Str} {cs : List Nat} : wp (ev R G (.fld a f cs) m ρ S) Q E = wp (ev R G a false ρ S) (fun x S1 => opt (fld1 cs f S1 x) fun d => vfin m Q d S1) E := by
  simp only [ev, wp_fin, Bool.false_eq_true, if_false]
  repeat (first | (refine wpE fun _ _ => ?_) | (simp only [wp_bnd, wp_lf02]))
@[simp] theorem wp_dn : wp (ev R G .dn m ρ S) Q E = vfin m Q (.ref S.length) (S ++ [.dct []]) := by
  simp only [ev, wp_fin, wp_ok]
/-- a made instance: its __init__ gives None -/
def mkQ (i : Nat) (Q : D → Sto → Prop) (d : D) (S : Sto) : Prop := match d with
  | .non => Q (.ref i) S
  | _ => False
@[simp] theorem mkQ_non {i : Nat} : mkQ i Q .non S = Q (.ref i) S := propext ⟨fun h => h, fun h => h⟩
@[simp] theorem wp_mk {c f : Nat} : wp (ev R G (.mk c f as) m ρ S) Q E = wp (evs R G as ρ S) (fun ds S1 => wp (R f (.ref S1.length :: ds) (S1 ++ [.ins c []])) (mkQ S1.length (vfin m Q)) E) E := by
  simp only [ev, wp_fin, wp_bnd]
  refine wpE fun ds S1 => ?_
  simp only [wp_bnd]
  refine wpE fun d S2 => ?_
  cases d <;> first | exact wp_ok | exact wp_none
@[simp] theorem wp_met {k : Str} {c f : Nat} : wp (ev R G (.met k c f a as) m ρ S) Q E = wp (ev R G a false ρ S) (fun x S1 => isMe c k S1 x = true ∧ wp (evs R G as ρ S1) (fun ds S2 => wp (R f (x :: ds) S2) (vfin m Q) E) E) E := by
  simp only [ev, wp_fin, wp_bnd]
  refine wpE fun x S1 => ?_
  split
  · rename_i h
    simp only [h, true_and, wp_bnd]
  · rename_i h
    simp only [h, Bool.false_eq_true, false_and, wp_none]
@[simp] theorem evs_nil : wp (evs R G .nil ρ S) QL E = QL [] S := by
  simp only [evs, wp_ok]
@[simp] theorem evs_cons : wp (evs R G (.cons a as) ρ S) QL E = wp (ev R G a false ρ S) (fun x S1 => wp (evs R G as ρ S1) (fun xs S2 => QL (x :: xs) S2) E) E := by
  simp only [evs]
  repeat (first | (refine wpE fun _ _ => ?_) | (simp only [wp_bnd, wp_lft2, wp_lf02, opt_map, wpS_bnS, wpS_nxS2, wpS_ok, wp_ok]))
@[simp] theorem evs_star : wp (evs R G (.star a as) ρ S) QL E = wp (ev R G a false ρ S) (fun x S1 => opt (seqOf S1 x) fun l => wp (evs R G as ρ S1) (fun xs S2 => QL (l ++ xs) S2) E) E := by
  simp only [evs, wp_bnd]
  refine wpE fun x S1 => ?_
  cases seqOf S1 x with
  | none => rfl
  | some l =>
    simp only [wp_bnd, wp_ok, opt_some]
    exact wpE fun _ _ => wp_ok
/-! statements -/
@[simp] theorem ex_pass : wpS (ex R G w .pass ρ S) Z E = Z .nx ρ S := by simp only [ex, wpS_ok]
@[simp] theorem ex_brk : wpS (ex R G w .brk ρ S) Z E = Z .brk ρ S := by simp only [ex, wpS_ok]
@[simp] theorem ex_cnt : wpS (ex R G w .cnt ρ S) Z E = Z .ct ρ S := by simp only [ex, wpS_ok]
@[simp] theorem ex_expr : wpS (ex R G w (.expr a) ρ S) Z E = wp (ev R G a false ρ S) (fun _ S1 => Z .nx ρ S1) E := by
  simp only [ex]
  repeat (first | (refine wpE fun _ _ => ?_) | (simp only [wp_bnd, wp_lft2, wp_lf02, opt_map, wpS_bnS, wpS_nxS2, wpS_ok, wp_ok]))
@[simp] theorem ex_ret : wpS (ex R G w (.ret a) ρ S) Z E = wp (ev R G a false ρ S) (fun d S1 => Z (.ret d) ρ S1) E := by
  simp only [ex]
  repeat (first | (refine wpE fun _ _ => ?_) | (simp only [wp_bnd, wp_lft2, wp_lf02, opt_map, wpS_bnS, wpS_nxS2, wpS_ok, wp_ok]))
@[simp] theorem ex_retn : wpS (ex R G w .retn ρ S) Z E = Z (.ret .non) ρ S := by simp only [ex, wpS_ok]
@[simp] theorem ex_asg {t : Tg} : wpS (ex R G w (.asg t a) ρ S) Z E = wp (ev R G a false ρ S) (fun d S1 => opt (asgT t d ρ) fun ρ1 => Z .nx ρ1 S1) E := by
  simp only [ex]
  repeat (first | (refine wpE fun _ _ => ?_) | (simp only [wp_bnd, wp_lft2, wp_lf02, opt_map, wpS_bnS, wpS_nxS2, wpS_ok, wp_ok]))
@[simp] theorem ex_seti {i : Ex} : wpS (ex R G w (.seti a i b) ρ S) Z E = wp (ev R G b false ρ S) (fun v S1 => wp (ev R G a false ρ S1) (fun x S2 => wp (ev R G i false ρ S2) (fun y S3 => opt (seti S3 x y v) fun S4 => Z .nx ρ S4) E) E) E := by
  simp only [ex]
  repeat (first | (refine wpE fun _ _ => ?_) | (simp only [wp_bnd, wp_lft2, wp_lf02, opt_map, wpS_bnS, wpS_nxS2, wpS_ok, wp_ok]))
@[simp] theorem ex_sfl {f : Str} {cs : List Nat} : wpS (ex R G w (.sfl a f cs b) ρ S) Z E = wp (ev R G b false ρ S) (fun v S1 => wp (ev R G a false ρ S1) (fun x S2 => opt (sfl1 cs f S2 x v) fun S3 => Z .nx ρ S3) E) E := by
  simp only [ex]
  repeat (first | (refine wpE fun _ _ => ?_) | (simp only [wp_bnd, wp_lft2, wp_lf02, opt_map, wpS_bnS, wpS_nxS2, wpS_ok, wp_ok]))
@[simp] theorem ex_afl {f : Str} {c : Nat} {p : B2} : wpS (ex R G w (.afl a f c p b) ρ S) Z E = wp (ev R G a false ρ S) (fun x S1 => opt (fld1 [c] f S1 x) fun z => wp (ev R G b false ρ S1) (fun v S2 => opt (aug p S2 z v) fun u => opt (sfl1 [c] f S2 x u) fun S3 => Z .nx ρ S3) E) E := by
  simp only [ex, wpS_bnS]
  refine wpE fun x S1 => ?_
  cases fld1 [c] f S1 x with
  | none => rfl
  | some z =>
    simp only [wpS_bnS, opt_some]
    refine wpE fun v S2 => ?_
    simp only [wpS_nxS2]
    cases aug p S2 z v with
    | none => rfl
    | some u =>
      simp only [Option.bind_some, opt_some]
      cases sfl1 [c] f S2 x u <;> rfl
@[simp] theorem ex_dpt : wpS (ex R G w (.dpt a b c) ρ S) Z E = wp (ev R G c false ρ S) (fun v S1 => wp (ev R G a false ρ S1) (fun x S2 => wp (ev R G b false ρ S2) (fun y S3 => opt (setQ S3 x y v) fun S4 => Z .nx ρ S4) E) E) E := by
  simp only [ex]
  repeat (first | (refine wpE fun _ _ => ?_) | (simp only [wp_bnd, wp_lft2, wp_lf02, opt_map, wpS_bnS, wpS_nxS2, wpS_ok, wp_ok]))
@[simp] theorem ex_par {i j : Nat} : wpS (ex R G w (.par i j a b) ρ S) Z E = wp (ev R G a false ρ S) (fun x S1 => wp (ev R G b false ρ S1) (fun y S2 => Z .nx ((ρ.set i (some x)).set j (some y)) S2) E) E := by
  simp only [ex]
  repeat (first | (refine wpE fun _ _ => ?_) | (simp only [wp_bnd, wp_lft2, wp_lf02, opt_map, wpS_bnS, wpS_nxS2, wpS_ok, wp_ok]))
@[simp] theorem ex_aug {i : Nat} {o : B2} : wpS (ex R G w (.aug i o a) ρ S) Z E = opt ρ[i]?.join fun x => wp (ev R G a false ρ S) (fun y S1 => opt (aug o S1 x y) fun z => Z .nx (ρ.set i (some z)) S1) E := by
  simp only [ex]
  rcases ρ[i]? with _ | _ | x
  · rfl
  · rfl
  · simp only [wpS_bnS, Option.join_some, opt_some]
    exact wpE fun _ _ => by simp only [wpS_nxS2, opt_map]
@[simp] theorem ex_iff {x y : Sms} : wpS (ex R G w (.iff c x y) ρ S) Z E = wp (ev R G c true ρ S) (fun d S1 => cas d (wpS (exs R G w x ρ S1) Z E) (wpS (exs R G w y ρ S1) Z E)) E := by
  simp only [ex, wpS_bnS]
  refine wpE fun d S1 => ?_
  cases d with
  | bl t => cases t <;> rfl
  | _ => rfl
@[simp] theorem ex_for {t : Tg} {k : Ib} {x : Sms} : wpS (ex R G w (.for t k as x) ρ S) Z E = wp (evs R G as ρ S) (fun ds S1 => opt (it1 S1 k ds) fun j =>
    wpS (forL t j (fun ρ S => exs R G w x ρ S) (lenI j S1 + 1) 0 ρ S1) Z E) E := by
  simp only [ex, wpS_bnS]
  refine wpE fun ds S1 => ?_
  cases it1 S1 k ds <;> rfl
@[simp] theorem ex_agi {i : Ex} {p : B2} : wpS (ex R G w (.agi a i p b) ρ S) Z E = wp (ev R G a false ρ S) (fun x S1 => wp (ev R G i false ρ S1) (fun y S2 => opt (getL S2 x y) fun z => wp (ev R G b false ρ S2) (fun v S3 => opt (aug p S3 z v) fun u => opt (seti S3 x y u) fun S4 => Z .nx ρ S4) E) E) E := by
  simp only [ex, wpS_bnS]
  refine wpE fun x S1 => ?_
  simp only [wpS_bnS]
  refine wpE fun y S2 => ?_
  cases getL S2 x y with
  | none => rfl
  | some z =>
    simp only [wpS_bnS, opt_some]
    refine wpE fun v S3 => ?_
    simp only [wpS_nxS2]
    cases aug p S3 z v with
    | none => rfl
    | some u =>
      simp only [Option.bind_some, opt_some]
      cases seti S3 x y u <;> rfl
@[simp] theorem getL_ref {n : Nat} {i : Int} : getL S (.ref n) (.int i) = (lstOf S n).bind fun l => atI l i := rfl
/-! ### raise, try -/
@[simp] theorem ex_rse {i : Nat} {f : Str} : wpS (ex R G w (.rse i f a) ρ S) Z E = wp (ev R G a false ρ S) (fun d S1 => okD d = true ∧ E ⟨i, [(f, d)]⟩ S1) E := by
  simp only [ex, wpS_bnS]
  refine wpE fun d S1 => ?_
  by_cases h : okD d = true
  · simp only [h, if_true, wpS_er, true_and]
  · simp only [h, Bool.false_eq_true, if_false, wpS_none, false_and]
/-- .. with what the names hold where something is raised -/
def wpR (m : MoS) (Q : Fl → Rho → Sto → Prop) (F : Exn → Rho → Sto → Prop) (_ : Tok (Q, F) := ⟨⟩) : Prop := match m with
  | some (.ok f ρ S) => Q f ρ S
  | some (.er x ρ S) => F x ρ S
  | none => False
/-- what a try does with what it catches -/
def tcE (yes no : List Nat) (i : Option Nat) (h : Hs) (Z : Fl → Rho → Sto → Prop) (E : Exn → Sto → Prop) (x : Exn) (ρ : Rho) (S : Sto) : Prop :=
  if yes.contains x.c then opt (exH x h (offR i ρ) S) fun f => Z f (offR i ρ) S else no.contains x.c = true ∧ E x S
@[simp] theorem ex_tri {y : Sms} {yes no : List Nat} {i : Option Nat} {h : Hs} : wpS (ex R G w (.tri y yes no i h) ρ S) Z E = wpR (exs R G w y ρ S) Z (tcE yes no i h Z E) := by
  simp only [ex]
  rcases exs R G w y ρ S with _ | ⟨f, ρ1, S1⟩ | ⟨x, ρ1, S1⟩
  · rfl
  · rfl
  · show wpS (triE yes no i h (some (.er x ρ1 S1))) Z E = tcE yes no i h Z E x ρ1 S1
    unfold triE tcE
    by_cases h1 : yes.contains x.c = true
    · simp only [h1, if_true]
      cases exH x h (offR i ρ1) S1 <;> rfl
    · simp only [h1, Bool.false_eq_true, if_false]
      by_cases h2 : no.contains x.c = true
      · simp only [h2, if_true, wpS_er, true_and]
      · simp only [h2, Bool.false_eq_true, if_false, wpS_none, false_and]
section
variable {F : Exn → Rho → Sto → Prop}
theorem wpR_bnS {α : Type} {m : Mo α} {f : α → Sto → MoS} : wpR (bnS ρ m f) Z F = wp m (fun a S => wpR (f a S) Z F) (fun x S => F x ρ S) := by
  rcases m with _ | ⟨a, S⟩ | ⟨x, S⟩ <;> rfl
@[simp] theorem exsR_nil : wpR (exs R G w .nil ρ S) Z F = Z .nx ρ S := by
  simp only [exs]
  exact propext ⟨fun h => h, fun h => h⟩
def konR (R : Nat → List D → Sto → Mo D) (G : List D) (w : Nat) (r : Sms) (Z : Fl → Rho → Sto → Prop) (F : Exn → Rho → Sto → Prop) (ρ : Rho) (S : Sto) : Prop := wpR (exs R G w r ρ S) Z F
@[simp] theorem konR_go {r : Sms} : konR R G w r Z F ρ S = wpR (exs R G w r ρ S) Z F := propext ⟨fun h => h, fun h => h⟩
@[simp] theorem exsR_cons {a : Sm} {r : Sms} : wpR (exs R G w (.cons a r) ρ S) Z F = wpR (ex R G w a ρ S) (aft (konR R G w r Z F) Z) F := by
  simp only [exs]
  cases ex R G w a ρ S with
  | none => rfl
  | some o => cases o with
    | ok f ρ S => cases f <;> rfl
    | er x ρ S => rfl
@[simp] theorem exR_expr : wpR (ex R G w (.expr a) ρ S) Z F = wp (ev R G a false ρ S) (fun _ S1 => Z .nx ρ S1) (fun x S1 => F x ρ S1) := by
  simp only [ex, wpR_bnS]
  exact wpE fun _ _ => propext ⟨fun h => h, fun h => h⟩
@[simp] theorem exR_ret : wpR (ex R G w (.ret a) ρ S) Z F = wp (ev R G a false ρ S) (fun d S1 => Z (.ret d) ρ S1) (fun x S1 => F x ρ S1) := by
  simp only [ex, wpR_bnS]
  exact wpE fun _ _ => propext ⟨fun h => h, fun h => h⟩
@[simp] theorem exR_asg {t : Tg} : wpR (ex R G w (.asg t a) ρ S) Z F = wp (ev R G a false ρ S) (fun d S1 => opt (asgT t d ρ) fun ρ1 => Z .nx ρ1 S1) (fun x S1 => F x ρ S1) := by
  simp only [ex, wpR_bnS]
  refine wpE fun d S1 => ?_
  cases asgT t d ρ <;> rfl
@[simp] theorem exR_iff {x y : Sms} : wpR (ex R G w (.iff c x y) ρ S) Z F = wp (ev R G c true ρ S) (fun d S1 => cas d (wpR (exs R G w x ρ S1) Z F) (wpR (exs R G w y ρ S1) Z F)) (fun x S1 => F x ρ S1) := by
  simp only [ex, wpR_bnS]
  refine wpE fun d S1 => ?_
  cases d with
  | bl b => cases b <;> rfl
  | _ => rfl
end
@[simp] theorem ex_whl {x : Sms} : wpS (ex R G w (.whl c x) ρ S) Z E = wpS (whL (fun ρ S => ev R G c true ρ S) (fun ρ S => exs R G w x ρ S) w ρ S) Z E := by
  simp only [ex]
/-! operations -/
section
variable {i j : Int} {x y : Bool} {l l' : List D} {n : Nat} {d : D}
@[simp] theorem ng_int : ngD (.int i) = some (.int (-i)) := rfl
@[simp] theorem nt_bl : ntD (.bl x) = some (.bl (!x)) := rfl
@[simp] theorem o_add : op2 .add (.int i) (.int j) S = some (.int (i + j), S) := rfl
@[simp] theorem o_sub : op2 .sub (.int i) (.int j) S = some (.int (i - j), S) := rfl
@[simp] theorem o_mul : op2 .mul (.int i) (.int j) S = if i.natAbs < WID ∧ j.natAbs < WID then some (.int (i * j), S) else none := rfl
@[simp] theorem o_fdiv : op2 .fdiv (.int i) (.int j) S = if j ≠ 0 ∧ j.natAbs < WID then some (.int (i.fdiv j), S) else none := rfl
@[simp] theorem o_mod : op2 .mod (.int i) (.int j) S = if j ≠ 0 then some (.int (i.fmod j), S) else none := rfl
@[simp] theorem o_shr : op2 .shr (.int i) (.int j) S = if 0 ≤ j ∧ j ≤ 1000000 then some (.int (i / 2 ^ j.toNat), S) else none := rfl
@[simp] theorem o_dvl {i : Nat} : op1 .dvl (.ref i) S = (dctOf S i).map fun kvs => (.ref S.length, S ++ [.lst (kvs.map (·.2))]) := rfl
@[simp] theorem setQ_rr {i j : Nat} {d : D} : setQ S (.ref i) (.ref j) d = (dctOf S i).bind fun kvs => ((lstOf S j).bind intL).bind fun k => if kvs.length < LIM then some (S.set i (.dct (putQ kvs k d))) else none := rfl
@[simp] theorem o_bits : op1 .bits (.int i) S = some (.int ((Builtin.Int.intBits i : Nat) : Int), S) := rfl
@[simp] theorem c_leS {a b : Str} : cm2 .le (.str a) (.str b) S = some (!decide (b.cps.toList < a.cps.toList)) := rfl
@[simp] theorem it_sgn {a : Str} : it1 S .val [.str a] = some (.sgn a) := rfl
@[simp] theorem o_pow : op2 .pow (.int i) (.int j) S = if 0 ≤ j ∧ j ≤ 1000000 ∧ i.natAbs < 2 ^ 64 then some (.int (i ^ j.toNat), S) else none := rfl
@[simp] theorem o_addT : op2 .add (.tup l) (.tup l') S = if l.length + l'.length ≤ LIM then some (.tup (l ++ l'), S) else none := rfl
@[simp] theorem c_lt : cm2 .lt (.int i) (.int j) S = some (decide (i < j)) := rfl
@[simp] theorem c_lt2 {a b c e : Int} : cm2 .lt (.tup [.int a, .int b]) (.tup [.int c, .int e]) S = some (HT.lexLt [a, b] [c, e]) := rfl
@[simp] theorem c_le : cm2 .le (.int i) (.int j) S = some (decide (i ≤ j)) := rfl
@[simp] theorem c_gt : cm2 .gt (.int i) (.int j) S = some (decide (j < i)) := rfl
@[simp] theorem c_ge : cm2 .ge (.int i) (.int j) S = some (decide (j ≤ i)) := rfl
theorem eq_int : eqD S (.int i) (.int j) = some (i == j) := rfl
@[simp] theorem c_eqS {a b : Str} : cm2 .eq (.str a) (.str b) S = some (a == b) := rfl
@[simp] theorem c_neS {a b : Str} : cm2 .ne (.str a) (.str b) S = some (a != b) := rfl
@[simp] theorem c_eqI : cm2 .eq (.int i) (.int j) S = some (i == j) := rfl
@[simp] theorem c_neI : cm2 .ne (.int i) (.int j) S = some (i != j) := rfl
@[simp] theorem c_eqB : cm2 .eq (.bl x) (.bl y) S = some (x == y) := by cases x <;> cases y <;> rfl
@[simp] theorem c_neB : cm2 .ne (.bl x) (.bl y) S = some (x != y) := by cases x <;> cases y <;> rfl
@[simp] theorem t_bl : tru S (.bl x) = some x := rfl
@[simp] theorem t_int : tru S (.int i) = some (i != 0) := rfl
@[simp] theorem t_tup : tru S (.tup l) = some (!l.isEmpty) := rfl
@[simp] theorem b_lenT : bi1 .len [.tup l] S = some (.int l.length, S) := rfl
@[simp] theorem b_lenR : bi1 .len [.ref n] S = (lstOf S n).map fun l => (.int l.length, S) := rfl
@[simp] theorem b_abs : bi1 .abs [.int i] S = some (.int i.natAbs, S) := by
  show some (D.int (if i < 0 then -i else i), S) = _
  congr
  split <;> omega
@[simp] theorem b_int : bi1 .int [.int i] S = some (.int i, S) := rfl
@[simp] theorem b_gcd : bi1 .gcd [.int i, .int j] S = some (.int (Int.gcd i j : Nat), S) := rfl
@[simp] theorem b_lcm : bi1 .lcm [.int i, .int j] S = if i.natAbs < 2 ^ 64 ∧ j.natAbs < 2 ^ 64 then some (.int (Int.lcm i j : Nat), S) else none := rfl
@[simp] theorem b_sum : bi1 .sum [.ref n] S = ((lstOf S n).bind intL).map fun ns => (.int ns.sum, S) := rfl
@[simp] theorem y_tup : isTy S (.tup l) .tuple = some true := rfl
@[simp] theorem y_intb : isTy S (.int i) .bool = some false := rfl
@[simp] theorem y_blb : isTy S (.bl x) .bool = some true := rfl
@[simp] theorem x_tup : ix1 S (.tup l) (.int i) = atI l i := rfl
@[simp] theorem x_ref : ix1 S (.ref n) (.int i) = (lstOf S n).bind fun l => atI l i := rfl
@[simp] theorem m_app : Mx.mt1 .append (.ref n) [d] S = (mutOf S n).bind fun l => if l.length < LIM then some (.non, S.set n (.lst (l ++ [d]))) else none := by
  unfold Mx.mt1
  dsimp only
  cases mutOf S n <;> rfl
@[simp] theorem g_nm : asgT (.nm n) d ρ = some (ρ.set n (some d)) := rfl
@[simp] theorem oi_nil : oInt [] = some none := rfl
@[simp] theorem oi_one : oInt [.int i] = some (some i) := rfl
@[simp] theorem is_ref : isL S (.ref n) = (lstOf S n).isSome := rfl
@[simp] theorem it_rng {P : Itr → Prop} : opt (it1 S .rng [.int j]) P = (okR j = true ∧ P (.items (rng 0 j.toNat))) := by
  show opt (if okR j then _ else _) P = _
  exact opt_cond
@[simp] theorem it_rng2 {P : Itr → Prop} : opt (it1 S .rng [.int i, .int j]) P = ((okR i = true ∧ okR j = true) ∧ P (.items (rng i (j - i).toNat))) := by
  show opt (if (okR i && okR j) = true then _ else _) P = _
  rw [opt_cond, Bool.and_eq_true]
theorem okR_of {j : Int} (h : -1000000 ≤ j) (h2 : j ≤ 1000000) : okR j = true := by
  have h' : j.natAbs ≤ 2 ^ 62 - 1 := by omega
  exact Nat.ble_eq_true_of_le h'
@[simp] theorem i_tup : it1 S .val [.tup l] = some (.items l) := rfl
@[simp] theorem i_ref : it1 S .val [.ref n] = (lstOf S n).map fun _ => .live n := rfl
@[simp] theorem i_revT : it1 S .rev [.tup l] = some (.items l.reverse) := rfl
@[simp] theorem i_revR : it1 S .rev [.ref n] = (lstOf S n).map fun l => .back n l.length := rfl
@[simp] theorem l_back {r : Nat} : lenI (.back r n) S = n := rfl
@[simp] theorem l_items : lenI (.items l) S = l.length := rfl
@[simp] theorem seti_ref : seti S (.ref n) (.int i) d = (mutOf S n).bind fun l => (ixN l.length i).map fun j => S.set n (.lst (l.set j d)) := rfl
@[simp] theorem rv_tup : rv1 (.tup l) S = some (.tup l.reverse, S) := rfl
@[simp] theorem rv_ref : rv1 (.ref n) S = (lstOf S n).map fun xs => (.ref S.length, S ++ [.lst xs.reverse]) := rfl
@[simp] theorem s_hi : sl1 (.ref n) [] [.int j] S = (lstOf S n).map fun xs => (.ref S.length, S ++ [.lst (cutD xs none (some j))]) := rfl
@[simp] theorem s_lo : sl1 (.ref n) [.int j] [] S = (lstOf S n).map fun xs => (.ref S.length, S ++ [.lst (cutD xs (some j) none)]) := rfl
@[simp] theorem s_no : sl1 (.ref n) [] [] S = (lstOf S n).map fun xs => (.ref S.length, S ++ [.lst (cutD xs none none)]) := rfl
@[simp] theorem s_hiT : sl1 (.tup l) [] [.int j] S = some (.tup (cutD l none (some j)), S) := rfl
@[simp] theorem s_loT : sl1 (.tup l) [.int j] [] S = some (.tup (cutD l (some j) none), S) := rfl
@[simp] theorem s_loR : sl1 (.ref n) [.int i] [.int j] S = (lstOf S n).map fun xs => (.ref S.length, S ++ [.lst (cutD xs (some i) (some j))]) := rfl
@[simp] theorem s_loRT : sl1 (.tup l) [.int i] [.int j] S = some (.tup (cutD l (some i) (some j)), S) := rfl
@[simp] theorem atI_0 : atI (d :: l) 0 = some d := by
  simp [atI, ixN]
@[simp] theorem atI_1 {d' : D} : atI (d :: d' :: l) 1 = some d' := by
  have h : (1 : Int) < ((l.length + 1 + 1 : Nat) : Int) := by omega
  simp only [atI, ixN, List.length_cons, h]
  rfl
end
end
/-! the store -/
section
variable {S : Sto} {i : Nat} {l : List D}
theorem lst_lst (h : S[i]? = some (.lst l)) : lstOf S i = some l := by simp [lstOf, h]
theorem lst_frz (h : S[i]? = some (.frz l)) : lstOf S i = some l := by simp [lstOf, h]
theorem mut_lst (h : S[i]? = some (.lst l)) : mutOf S i = some l := by simp [mutOf, h]
@[simp] theorem lst_set {n : Nat} (h : n < S.length) : lstOf (List.set S n (.lst l)) n = some l := by simp [lstOf, h]
@[simp] theorem mut_set {n : Nat} (h : n < S.length) : mutOf (List.set S n (.lst l)) n = some l := by simp [mutOf, h]
@[simp] theorem ixN_0 {n : Nat} : ixN (n + 1) 0 = some 0 := by simp [ixN]
theorem ixN_nat {n i : Nat} (h : i < n) : ixN n (i : Int) = some i := by
  simp [ixN, h]
theorem lt_of_get {o : Ob} (h : S[i]? = some o) : i < S.length := (List.getElem?_eq_some_iff.mp h).1
theorem WID64 : (2 : Nat) ^ 64 ≤ WID := Nat.pow_le_pow_right (by decide) (by decide)
theorem WID200 : (2 : Nat) ^ 200 ≤ WID := Nat.pow_le_pow_right (by decide) (by decide)
theorem wid {z : Int} (h : z.natAbs < 2 ^ 200) : z.natAbs < WID := Nat.lt_of_lt_of_le h WID200
end
end Mx
set_option Elab.async false
set_option linter.all false
set_option maxRecDepth 100000
set_option maxHeartbeats 8000000
set_option exponentiation.threshold 8000
/-! what the laws share: the row of numbers and what is taken of it -/
namespace Mx
open PySem L2
theorem rng_len (lo : Int) (n : Nat) : (rng lo n).length = n := by simp [rng]
theorem rng_get {lo : Int} {n i : Nat} {d : D} (h : (rng lo n)[i]? = some d) : i < n ∧ d = .int (lo + (i : Int)) := by
  have hi : i < n := by
    have := (List.getElem?_eq_some_iff.mp h).1
    rwa [rng_len] at this
  refine ⟨hi, ?_⟩
  simp only [rng, List.getElem?_map, List.getElem?_range hi, Option.map_some, Option.some.injEq] at h
  exact h.symm
/-- the row: its first number tells how far it is used -/
structure Rowp (S : Sto) (r : Nat) : Prop where
  ex : ∃ (c : Int) (l : List Int), S[r]? = some (.lst ((c :: l).map .int)) ∧ 1 ≤ c ∧ l.length < 5000
/-- only the object at r has changed -/
structure Fr (r : Nat) (S S' : Sto) : Prop where
  len : S'.length = S.length
  get : ∀ i, i ≠ r → S'[i]? = S[i]?
theorem Fr.refl (r : Nat) (S : Sto) : Fr r S S := ⟨rfl, fun _ _ => rfl⟩
theorem Fr.trans {r : Nat} {S S1 S2 : Sto} (a : Fr r S S1) (b : Fr r S1 S2) : Fr r S S2 := ⟨b.len.trans a.len, fun i h => (b.get i h).trans (a.get i h)⟩
theorem Fr.set (r : Nat) (S : Sto) (o : Ob) : Fr r S (S.set r o) := ⟨by simp, fun i h => by rw [List.getElem?_set_ne (Ne.symm h)]⟩
def b_take : Sms :=
 (.cons (.iff (.cmp .lt (.idx (.var 0) (.cst (.int 0))) (.bi .len (.cons (.var 0) .nil)))
  (.cons (.seti (.var 0) (.cst (.int 0)) (.bin .add (.idx (.var 0) (.cst (.int 0))) (.cst (.int 1)))) <|
  (.cons (.ret (.bin .mod (.bi .int (.cons (.idx (.var 0) (.bin .sub (.idx (.var 0) (.cst (.int 0))) (.cst (.int 1)))) .nil)) (.var 1))) .nil))
  .nil) <|
 (.cons (.ret (.cst (.int 0))) .nil))
section
variable {Fs : List Fn} {G : List D} {w k i : Nat}
theorem take_spec (hF : Fs[i]? = some ⟨2, 2, b_take⟩) {S : Sto} {r : Nat} {m : Int} (hm : 0 < m) (h : Rowp S r) :
    wp (run Fs G w (k + 1) i [.ref r, .int m] S) (fun d S' => Rowp S' r ∧ Fr r S S' ∧ ∃ x, d = .int x ∧ 0 ≤ x ∧ x < m) nE := by
  refine wp_run hF rfl ?_
  obtain ⟨c, l, hS, h1, h2⟩ := h.ex
  have hL := lst_lst hS
  have hM := mut_lst hS
  have hr := lt_of_get hS
  simp [b_take, enter, hL, hM, hr]
  refine cas_dec (fun hc => ?_) fun hc => ?_
  · obtain ⟨j, rfl⟩ : ∃ j : Nat, c = ((j + 1 : Nat) : Int) := ⟨c.toNat - 1, by omega⟩
    have hj : j < l.length := by omega
    have e2 : atI (D.int (((j + 1 : Nat) : Int) + 1) :: l.map D.int) ((j + 1 : Nat) : Int) = some (.int l[j]) := by
      simp only [atI]
      rw [ixN_nat (by simp; omega)]
      simp [hj]
    have e1 : (((j + 1 : Nat) : Int) + 1 - 1) = ((j + 1 : Nat) : Int) := by omega
    simp [hL, hM, hr, e1, -Int.natCast_add]
    rw [e2]
    simp
    refine ⟨by omega, ⟨((j : Int) + 1 + 1), l, by simp [hr], by omega, h2⟩, Fr.set _ _ _, ?_, ?_⟩
    · rw [Int.fmod_eq_emod_of_nonneg _ (by omega)]
      exact Int.emod_nonneg _ (by omega)
    · rw [Int.fmod_eq_emod_of_nonneg _ (by omega)]
      exact Int.emod_lt_of_pos _ hm
  · simp
    exact ⟨h, Fr.refl _ _, hm⟩
end
/-! ### the row is written -/
def b_stream : Sms :=
 (.cons (.asg (.nm 1) (.lst (.cons (.cst (.int 1)) .nil))) <|
 (.cons (.for (.nm 2) .val (.cons (.slc (.var 0) .nil (.cons (.cst (.int 63)) .nil)) .nil)
  (.cons (.asg (.nm 3) (.bi .abs (.cons (.bi .int (.cons (.var 2) .nil)) .nil))) <|
  (.cons (.for (.nm 4) .rng (.cons (.cst (.int 60)) .nil)
   (.cons (.expr (.mth .append (.var 1) (.cons (.bin .mod (.var 3) (.cst (.int 59))) .nil))) <|
   (.cons (.asg (.nm 3) (.bin .fdiv (.var 3) (.cst (.int 59)))) <|
   (.cons (.iff (.cmp .eq (.var 3) (.cst (.int 0)))
    (.cons .brk .nil)
    .nil) .nil)))) .nil))) <|
 (.cons (.asg (.nm 5) (.cst (.int 7))) <|
 (.cons (.for (.nm 2) .val (.cons (.slc (.var 0) .nil (.cons (.cst (.int 63)) .nil)) .nil)
  (.cons (.asg (.nm 5) (.bin .mod (.bi .int (.cons (.bin .add (.bin .add (.bin .mul (.var 5) (.cst (.int 131))) (.var 2)) (.cst (.int 17))) .nil)) (.cst (.int 1000003)))) .nil)) <|
 (.cons (.for (.nm 4) .rng (.cons (.cst (.int 150)) .nil)
  (.cons (.asg (.nm 5) (.bin .mod (.bi .int (.cons (.bin .add (.bin .add (.bin .mul (.var 5) (.cst (.int 48271))) (.bin .mul (.var 4) (.cst (.int 69621)))) (.cst (.int 11))) .nil)) (.cst (.int 2147483647)))) <|
  (.cons (.expr (.mth .append (.var 1) (.cons (.bin .mod (.bin .fdiv (.var 5) (.cst (.int 1009))) (.cst (.int 59))) .nil))) .nil))) <|
 (.cons (.ret (.var 1)) .nil))))))
theorem cut_ints (ns : List Int) (j : Nat) : cutD (ns.map D.int) none (some (j : Int)) = (ns.take j).map D.int := by
  unfold cutD
  rw [HT.sIx_none, show HT.sIx (ns.map D.int).length (ns.map D.int).length (some (j : Int)) = min j (ns.map D.int).length from HT.sIx_nat _ _ j]
  simp [List.map_take]
theorem ints_get {l : List Int} {i : Nat} {d : D} (h : (l.map D.int)[i]? = some d) : ∃ z, l[i]? = some z ∧ d = .int z := by
  rw [List.getElem?_map] at h
  cases q : l[i]? with
  | none => rw [q] at h; cases h
  | some z =>
    rw [q] at h
    cases h
    exact ⟨z, rfl, rfl⟩
/-- a number that a machine may count with -/
theorem wid64 {z : Int} (h : z.natAbs < 2 ^ 64) : z.natAbs < WID := Nat.lt_of_lt_of_le h WID64
/-- the row as it is written: its first number is 1 -/
def Row1 (S : Sto) (r n : Nat) : Prop := ∃ l : List Int, S[r]? = some (.lst ((1 :: l).map .int)) ∧ l.length ≤ n
theorem Row1.push {S : Sto} {r n : Nat} (h : Row1 S r n) (hn : n < 5000) {z : Int} {Q : D × Sto → Prop} (q : ∀ S', Fr r S S' → Row1 S' r (n + 1) → Q (.non, S')) : opt (Mx.mt1 .append (.ref r) [.int z] S) Q := by
  obtain ⟨l, h1, h2⟩ := h
  have hr := lt_of_get h1
  simp only [m_app, mut_lst h1, Option.bind_some]
  rw [if_pos (by simp [LIM]; omega)]
  refine q _ (Fr.set _ _ _) ⟨l ++ [z], ?_, by simp; omega⟩
  simp [hr]
theorem Row1.isL {S : Sto} {r n : Nat} (h : Row1 S r n) : Mx.isL S (.ref r) = true := by
  obtain ⟨l, h1, _⟩ := h
  simp [lst_lst h1]
/-- while the row is written: the script, the row, a cut -/
structure Wr (ns : List Int) (len c n : Nat) (S : Sto) : Prop where
  len : S.length = len
  scr : S[0]? = some (.frz (ns.map D.int))
  cut : S[c]? = some (.lst (ns.map D.int))
  row : Row1 S 1 n
theorem Wr.fr {ns : List Int} {len c n m : Nat} {S S' : Sto} (h : Wr ns len c n S) (hc : c ≠ 1) (f : Fr 1 S S') (r : Row1 S' 1 m) : Wr ns len c m S' :=
  ⟨f.len.trans h.len, (f.get 0 (by decide)).trans h.scr, (f.get c hc).trans h.cut, r⟩
theorem Wr.le {ns : List Int} {len c n m : Nat} {S : Sto} (h : Wr ns len c n S) (hm : n ≤ m) : Wr ns len c m S := by
  obtain ⟨l, e1, e2⟩ := h.row
  exact ⟨h.len, h.scr, h.cut, l, e1, by omega⟩
theorem stream_spec {Fs : List Fn} {G : List D} {w k i : Nat} (hF : Fs[i]? = some ⟨1, 6, b_stream⟩) {ns : List Int} (hn : ns.length ≤ 63) :
    wp (run Fs G w (k + 1) i [.ref 0] [.frz (ns.map .int)]) (fun d S' => d = .ref 1 ∧ Rowp S' 1 ∧ S'[0]? = some (.frz (ns.map .int)) ∧ S'.length = 4) nE := by
  refine wp_run hF rfl ?_
  have ct : cutD (ns.map D.int) none (some 63) = ns.map D.int := by
    have := cut_ints ns 63
    rwa [List.take_of_length_le hn] at this
  have w59 : 59 < WID := wid64 (z := 59) (by decide)
  have w1009 : 1009 < WID := wid64 (z := 1009) (by decide)
  have z0 : ∀ (S : Sto), S[0]? = some (.frz (ns.map D.int)) → lstOf S 0 = some (ns.map D.int) := fun S h => lst_frz h
  simp [b_stream, enter, z0, ct]
  refine ⟨by decide, ?_⟩
  rw [lst_lst (S := [Ob.frz (ns.map D.int), Ob.lst [D.int 1], Ob.lst (ns.map D.int)]) (i := 2) rfl]
  simp only [opt_some]
  have W0 : Wr ns 3 2 0 [Ob.frz (ns.map D.int), Ob.lst [D.int 1], Ob.lst (ns.map D.int)] := ⟨rfl, rfl, rfl, [], rfl, Nat.le_refl _⟩
  -- the first loop
  refine forL_live (l := ns.map D.int) (fun i ρ S => Wr ns 3 2 (60 * i) S ∧ ∃ x2 x3 x4, ρ = [some (.ref 0), some (.ref 1), x2, x3, x4, none])
    (fun i ρ S h => lst_lst h.1.cut) ?_ ?_ _ 0 _ _ (by simp [lenI, lstOf]) (by omega) ⟨W0, none, none, none, rfl⟩
  · rintro i ρ S d hd ⟨W, x2, x3, x4, rfl⟩
    obtain ⟨z, hz, rfl⟩ := ints_get hd
    have hi : i < 63 := by
      have := (List.getElem?_eq_some_iff.mp hz).1
      omega
    refine ⟨_, rfl, ?_⟩
    simp
    refine ⟨by decide, ?_⟩
    refine forL_items (fun j ρ S => Wr ns 3 2 (60 * i + j) S ∧ ∃ (left : Int) (x4 : Option D), ρ = [some (.ref 0), some (.ref 1), some (.int z), some (.int left), x4, none])
      ?_ ?_ _ 0 _ _ (by omega) (by omega) ⟨W, _, _, rfl⟩
    · rintro j ρ S d hd ⟨W, left, x4, rfl⟩
      obtain ⟨hj, rfl⟩ := rng_get hd
      have hj' : j < 60 := hj
      refine ⟨_, rfl, ?_⟩
      have il := W.row.isL
      simp at il
      simp [il, -m_app]
      refine W.row.push (by omega) fun S' f r' => ?_
      have W' := W.fr (by decide) f r'
      simp [w59]
      refine cas_beq (fun _ => ?_) fun _ => ?_
      · simp
        exact W'.le (by omega)
      · simp
        exact W'
    · rintro ρ S ⟨W, left, x4, rfl⟩
      rw [rng_len] at W
      exact ⟨W, _, _, _, rfl⟩
  -- between
  · rintro ρ S ⟨W, x2, x3, x4, rfl⟩
    have W1 : Wr ns 3 2 3780 S := W.le (by simp; omega)
    simp [z0 S W1.scr, ct, W1.len]
    have W2 : Wr ns 4 3 3780 (S ++ [Ob.lst (ns.map D.int)]) := by
      obtain ⟨l, e1, e2⟩ := W1.row
      have hl := W1.len
      refine ⟨by simp [hl], ?_, ?_, l, ?_, e2⟩
      · rw [List.getElem?_append_left (by omega)]
        exact W1.scr
      · rw [List.getElem?_append_right (by omega), hl]
        rfl
      · rw [List.getElem?_append_left (by omega)]
        exact e1
    clear W W1
    generalize S ++ [Ob.lst (ns.map D.int)] = S2 at W2 ⊢
    simp [lst_lst W2.cut]
    refine forL_live (l := ns.map D.int) (fun i ρ S => Wr ns 4 3 3780 S ∧ ∃ x2 x3 x4 x5, ρ = [some (.ref 0), some (.ref 1), x2, x3, x4, some (.int x5)] ∧ x5.natAbs < 2 ^ 32)
      (fun i ρ S h => lst_lst h.1.cut) ?_ ?_ _ 0 _ _ (by simp [lenI, lst_lst W2.cut]) (by omega) ⟨W2, _, _, _, 7, rfl, by decide⟩
    · rintro i ρ S d hd ⟨W, x2, x3, x4, x5, rfl, h5⟩
      obtain ⟨z, hz, rfl⟩ := ints_get hd
      refine ⟨_, rfl, ?_⟩
      have a1 := wid64 (z := x5) (by omega)
      have a2 := wid64 (z := 131) (by decide)
      simp at a2
      simp [a1, a2]
      refine ⟨W, _, _, _, _, ⟨rfl, rfl, rfl, rfl⟩, ?_⟩
      have fm : (x5 * 131 + z + 17).fmod 1000003 = (x5 * 131 + z + 17) % 1000003 := Int.fmod_eq_emod_of_nonneg _ (by decide)
      rw [fm]
      omega
    · rintro ρ S ⟨W, x2, x3, x4, x5, rfl, h5⟩
      simp
      refine ⟨by decide, ?_⟩
      refine forL_items (fun j ρ S => Wr ns 4 3 (3780 + j) S ∧ ∃ (x2 x3 x4 : Option D) (x5 : Int), ρ = [some (.ref 0), some (.ref 1), x2, x3, x4, some (.int x5)] ∧ x5.natAbs < 2 ^ 32)
        ?_ ?_ _ 0 _ _ (by omega) (by omega) ⟨W, _, _, _, _, rfl, h5⟩
      · rintro j ρ S d hd ⟨W, x2, x3, x4, x5, rfl, h5⟩
        obtain ⟨hj, rfl⟩ := rng_get hd
        have hj' : j < 150 := hj
        refine ⟨_, rfl, ?_⟩
        have a1 := wid64 (z := x5) (by omega)
        have a2 := wid64 (z := 48271) (by decide)
        have a3 := wid64 (z := 69621) (by decide)
        have a4 := wid64 (z := (j : Int)) (by omega)
        simp at a2 a3 a4
        have il := W.row.isL
        simp at il
        simp [a1, a2, a3, a4, w1009, il, -m_app]
        have fm : (x5 * 48271 + (j : Int) * 69621 + 11).fmod 2147483647 = (x5 * 48271 + (j : Int) * 69621 + 11) % 2147483647 := Int.fmod_eq_emod_of_nonneg _ (by decide)
        refine W.row.push (by omega) fun S' f r' => ?_
        simp
        refine ⟨W.fr (by decide) f r', _, _, _, _, ⟨rfl, rfl, rfl, rfl⟩, ?_⟩
        rw [fm]
        omega
      · rintro ρ S ⟨W, x2, x3, x4, x5, rfl, h5⟩
        rw [rng_len] at W
        obtain ⟨l, e1, e2⟩ := W.row
        simp
        exact ⟨⟨1, l, e1, by decide, by omega⟩, W.scr, W.len⟩
end Mx
set_option Elab.async false
set_option linter.all false
set_option maxRecDepth 100000
set_option maxHeartbeats 8000000
set_option exponentiation.threshold 8000
/-! comprehensions -/
namespace Mx
open PySem L2
@[simp] theorem evt_nil {R : Nat → List D → Sto → Mo D} {G : List D} : (fun ρ S => evt R G Exs.nil ρ S) = fun (_ : Rho) S => some (.ok (.bl true) S) := by
  funext ρ S
  simp only [evt]
section
variable {E : Exn → Sto → Prop} {el : Rho → Sto → Mo D} {t : Tg} {l : List D} {ρ : Rho} {k : Nat} {S0 : Sto} {α : Type} {xs : List α} {f : α → D} {Q : D → Sto → Prop}
theorem get_app {S : Sto} {o : Ob} {i : Nat} (h : i < S.length) : (S ++ [o])[i]? = S[i]? := List.getElem?_append_left h
theorem lst_app {S : Sto} {o : Ob} {i : Nat} (h : i < S.length) : lstOf (S ++ [o]) i = lstOf S i := by
  unfold lstOf
  rw [get_app h]
theorem lst_app2 {S : Sto} {x : List D} : lstOf (S ++ [.lst x]) S.length = some x := by simp [lstOf]
/-- what does not touch the store -/
theorem lcL_pure (hk : S0.length = k) (hl : l.length = xs.length) (hx : xs.length < LIM)
    (h : ∀ (i : Nat) (d : D) (x : α), l[i]? = some d → xs[i]? = some x → ∃ ρ1, asgT t d ρ = some ρ1 ∧ ∀ o, wp (el ρ1 (S0 ++ [.lst o])) (fun y S2 => S2 = S0 ++ [.lst o] ∧ y = f x) nE)
    (hQ : Q (.ref k) (S0 ++ [.lst (xs.map f)])) {n : Nat} (hn : l.length + 1 ≤ n) : wp (lcL el (fun _ S => some (.ok (.bl true) S)) t (.items l) ρ k n 0 (S0 ++ [.lst []])) Q E := by
  subst hk
  refine lcL_items (fun i S => S = S0 ++ [.lst ((xs.take i).map f)]) ?_ ?_ n 0 _ (by omega) (Nat.zero_le _) rfl
  · rintro i S d hd rfl
    have hi : i < xs.length := by
      have := (List.getElem?_eq_some_iff.mp hd).1
      omega
    obtain ⟨ρ1, e1, e2⟩ := h i d xs[i] hd (List.getElem?_eq_getElem hi)
    refine ⟨ρ1, e1, wp_use (e2 _) ?_⟩
    rintro y S2 ⟨rfl, rfl⟩
    refine ⟨(xs.take i).map f, by simp [mutOf], ?_, ?_⟩
    · (rw [List.length_map, List.length_take])
      omega
    · rw [List.set_append_right _ _ (Nat.le_refl _), Nat.sub_self, List.take_add_one, List.getElem?_eq_getElem hi, List.map_append]
      rfl
  · rintro S rfl
    rw [hl, List.take_of_length_le (Nat.le_refl _)]
    exact hQ
theorem lcL_pureL {r : Nat} (hr : lstOf S0 r = some l) (hr2 : r < S0.length) (hk : S0.length = k) (hl : l.length = xs.length) (hx : xs.length < LIM)
    (h : ∀ (i : Nat) (d : D) (x : α), l[i]? = some d → xs[i]? = some x → ∃ ρ1, asgT t d ρ = some ρ1 ∧ ∀ o, wp (el ρ1 (S0 ++ [.lst o])) (fun y S2 => S2 = S0 ++ [.lst o] ∧ y = f x) nE)
    (hQ : Q (.ref k) (S0 ++ [.lst (xs.map f)])) {n : Nat} (hn : l.length + 1 ≤ n) : wp (lcL el (fun _ S => some (.ok (.bl true) S)) t (.live r) ρ k n 0 (S0 ++ [.lst []])) Q E := by
  subst hk
  refine lcL_live (l := l) (fun i S => S = S0 ++ [.lst ((xs.take i).map f)]) ?_ ?_ ?_ n 0 _ (by omega) (Nat.zero_le _) rfl
  · rintro i S rfl
    rw [lst_app hr2]
    exact hr
  · rintro i S d hd rfl
    have hi : i < xs.length := by
      have := (List.getElem?_eq_some_iff.mp hd).1
      omega
    obtain ⟨ρ1, e1, e2⟩ := h i d xs[i] hd (List.getElem?_eq_getElem hi)
    refine ⟨ρ1, e1, wp_use (e2 _) ?_⟩
    rintro y S2 ⟨rfl, rfl⟩
    refine ⟨(xs.take i).map f, by simp [mutOf], ?_, ?_⟩
    · (rw [List.length_map, List.length_take])
      omega
    · rw [List.set_append_right _ _ (Nat.le_refl _), Nat.sub_self, List.take_add_one, List.getElem?_eq_getElem hi, List.map_append]
      rfl
  · rintro S rfl
    rw [hl, List.take_of_length_le (Nat.le_refl _)]
    exact hQ
end
/-- a comprehension that takes of the row at 1: what stands when i items are in -/
structure CI (S0 : Sto) (k : Nat) (P : D → Prop) (i : Nat) (S : Sto) : Prop where
  len : S.length = k + 1
  old : ∀ j, j < k → j ≠ 1 → S[j]? = S0[j]?
  row : Rowp S 1
  acc : ∃ l : List D, S[k]? = some (.lst l) ∧ l.length = i ∧ ∀ z ∈ l, P z
theorem CI.start {S0 : Sto} {k : Nat} {P : D → Prop} (hk : S0.length = k) (h1 : 1 < k) (hr : Rowp S0 1) : CI S0 k P 0 (S0 ++ [.lst []]) := by
  subst hk
  obtain ⟨c, l, e1, e2, e3⟩ := hr.ex
  refine ⟨by simp, fun j hj _ => get_app hj, ⟨c, l, ?_, e2, e3⟩, [], by simp, rfl, by simp⟩
  rw [get_app h1]
  exact e1
theorem CI.push {S0 : Sto} {k : Nat} {P : D → Prop} {i : Nat} {S S' : Sto} (h : CI S0 k P i S) (h1 : 1 < k) (hi : i < 1000) (f : Fr 1 S S') (hr : Rowp S' 1) {z : D} (hz : P z) :
    ∃ acc, mutOf S' k = some acc ∧ acc.length < LIM ∧ CI S0 k P (i + 1) (S'.set k (.lst (acc ++ [z]))) := by
  obtain ⟨l, e1, e2, e3⟩ := h.acc
  have e4 : S'[k]? = some (.lst l) := (f.get k (by omega)).trans e1
  have hl := f.len.trans h.len
  refine ⟨l, mut_lst e4, ?_, ?_, fun j hj hj1 => ?_, ?_, l ++ [z], ?_, ?_, ?_⟩
  · simp only [LIM]
    omega
  · simp [hl]
  · rw [List.getElem?_set_ne (by omega), f.get j hj1, h.old j hj hj1]
  · obtain ⟨c, m, q1, q2, q3⟩ := hr.ex
    exact ⟨c, m, by rw [List.getElem?_set_ne (by omega)]; exact q1, q2, q3⟩
  · rw [List.getElem?_set_self (by omega)]
  · simp [e2]
  · intro y hy
    rcases List.mem_append.mp hy with q | q
    · exact e3 y q
    · simp at q
      subst q
      exact hz
end Mx
set_option Elab.async false
set_option linter.all false
set_option maxRecDepth 100000
set_option maxHeartbeats 8000000
/-! from what the top has written to the table -/
namespace Mx
open L2 PySem PySem.Spec PyProof.Rows
theorem at_mk {K : PySem.W.Frag} {h : Heap} {mg : Str → Option Value} (X : K.In h) (G : h.Ns mainGlobals mg) {x : Str} {st : Stmt} {N ps : List Str} {body : Sms} {f : Addr} {oc : Value} {od an : Option Addr} {osl : Array (Option Value)} {kV dc pm cd ct : Value}
    {y : Str} (a : PySem.W.nsIn K mainGlobals y = some (some (.ref f))) (l : K.lookup f = some ⟨oc, od, .func (PySem.W.fnOf x x (defArgs st) (defBody st) (defScope st) .none kV dc pm an cd ct), osl⟩)
    (c : PySem.W.codeIn K cd x = true) (k : PySem.W.keepIn K (.ref f) = true)
    (b : ∀ (kV doc pm : Value) (an : Option Addr) (cdv ct : Value) (us : List Value), us.length = ps.length → bindArgs (PySem.W.fnOf x x (defArgs st) (defBody st) (defScope st) .none kV doc pm an cdv ct) ⟨us, []⟩ = pure (ps.zip us))
    {ca : Nat → Addr} (hq : (⟨y, st, N, ps, body, [], none⟩ : Rw).q = x := by rfl) : At K ca mg ⟨y, st, N, ps, body, [], none⟩ := by
  refine ⟨f, _, [], [], PySem.W.mg_of X G a, (fun_mk l c k).binds b, ?_, fun z => absurd rfl z⟩
  show FunD K (⟨y, st, N, ps, body, [], none⟩ : Rw).q (⟨y, st, N, ps, body, [], none⟩ : Rw).q _ _ _ _ _ _ _
  rw [hq]
  exact ⟨⟨oc, od, .none, kV, dc, pm, an, cd, ct, osl, rfl, l, c, .inl ⟨rfl, rfl⟩, .inl rfl⟩, k⟩
/-- a method, by its class -/
theorem at_mkM {K : PySem.W.Frag} {h : Heap} {mg : Str → Option Value} (X : K.In h) {m q : Str} {st : Stmt} {N ps : List Str} {body : Sms} {f : Addr} {oc : Value} {od an : Option Addr} {osl : Array (Option Value)} {kV dc pm cd ct : Value} {ca : Nat → Addr} {c0 : Nat}
    (w : locd K ca mg ⟨q, st, N, ps, body, [], some (c0, m)⟩ f) (l : K.lookup f = some ⟨oc, od, .func (PySem.W.fnOf m q (defArgs st) (defBody st) (defScope st) .none kV dc pm an cd ct), osl⟩)
    (c : PySem.W.codeIn K cd q = true) (k : PySem.W.keepIn K (.ref f) = true)
    (b : ∀ (kV doc pm : Value) (an : Option Addr) (cdv ct : Value) (us : List Value), us.length = ps.length → bindArgs (PySem.W.fnOf m q (defArgs st) (defBody st) (defScope st) .none kV doc pm an cdv ct) ⟨us, []⟩ = pure (ps.zip us))
    (hq : (⟨q, st, N, ps, body, [], some (c0, m)⟩ : Rw).q = m := by rfl) : At K ca mg ⟨q, st, N, ps, body, [], some (c0, m)⟩ := by
  refine ⟨f, _, [], [], w, (fun_mk l c k).binds b, ?_, fun z => absurd rfl z⟩
  show FunD K (⟨q, st, N, ps, body, [], some (c0, m)⟩ : Rw).q q _ _ _ _ _ _ _
  rw [hq]
  exact ⟨⟨oc, od, .none, kV, dc, pm, an, cd, ct, osl, rfl, l, c, .inl ⟨rfl, rfl⟩, .inl rfl⟩, k⟩
theorem gls_nil {K : PySem.W.Frag} {mg : Str → Option Value} {G : List D} : ∀ x, ([] : List Str).contains x = true → ∀ d, G[([] : List Str).idxOf x]? = some d → ∃ u v, mg x = some u ∧ L2.RelV v u ∧ ∀ φ H, RV K φ H d v := fun x h => by
  cases h
end Mx
set_option Elab.async false
set_option linter.all false
set_option maxRecDepth 100000
set_option maxHeartbeats 4000000
/-! values as trees, their order, their sum; what does not touch the store -/
namespace Mx
open PySem L2
inductive Vl where
  | int (i : Int) | tup (l : List Vl)
mutual
def Vl.d : Vl → D
  | .int i => .int i
  | .tup l => .tup (Vl.ds l)
def Vl.ds : List Vl → List D
  | [] => []
  | v :: l => v.d :: Vl.ds l
end
theorem ds_map : ∀ l : List Vl, Vl.ds l = l.map Vl.d
  | [] => rfl
  | v :: l => by rw [Vl.ds, ds_map l]; rfl
theorem d_tup (l : List Vl) : (Vl.tup l).d = .tup (l.map Vl.d) := by rw [Vl.d, ds_map]
theorem d_int (i : Int) : (Vl.int i).d = .int i := by rw [Vl.d]
mutual
def Vl.nd : Vl → Nat
  | .int _ => 1
  | .tup l => 1 + Vl.nds l
def Vl.nds : List Vl → Nat
  | [] => 0
  | v :: l => v.nd + Vl.nds l
end
mutual
def Vl.sum : Vl → Int
  | .int i => i
  | .tup l => Vl.sums l
def Vl.sums : List Vl → Int
  | [] => 0
  | v :: l => v.sum + Vl.sums l
end
mutual
def cmpV : Vl → Vl → Int
  | .int i, .int j => if i < j then -1 else if j < i then 1 else 0
  | .int _, .tup _ => -1
  | .tup _, .int _ => 1
  | .tup l, .tup m => if l.length < m.length then -1 else if m.length < l.length then 1 else cmpVs l m
def cmpVs : List Vl → List Vl → Int
  | a :: l, b :: m => if cmpV a b = 0 then cmpVs l m else cmpV a b
  | _, _ => 0
end
/-- not deeper than n, no tuple longer than 64 -/
def vok : Nat → Vl → Prop
  | _, .int _ => True
  | n + 1, .tup l => l.length ≤ 64 ∧ ∀ v ∈ l, vok n v
  | 0, .tup _ => False
theorem nd_pos : ∀ v : Vl, 1 ≤ v.nd
  | .int _ => by simp [Vl.nd]
  | .tup _ => by simp [Vl.nd]
theorem nds_app : ∀ l m : List Vl, Vl.nds (l ++ m) = Vl.nds l + Vl.nds m
  | [], m => by simp [Vl.nds]
  | v :: l, m => by rw [List.cons_append, Vl.nds, Vl.nds, nds_app l m]; omega
theorem nds_rev : ∀ l : List Vl, Vl.nds l.reverse = Vl.nds l
  | [] => rfl
  | v :: l => by rw [List.reverse_cons, nds_app, nds_rev l]; simp [Vl.nds]; omega
theorem len_nds : ∀ l : List Vl, l.length ≤ Vl.nds l
  | [] => by simp [Vl.nds]
  | v :: l => by
    have h1 := nd_pos v
    have h2 := len_nds l
    rw [Vl.nds, List.length_cons]
    omega
theorem nds_le {B : Nat} : ∀ l : List Vl, (∀ v ∈ l, v.nd ≤ B) → Vl.nds l ≤ l.length * B
  | [], _ => by simp [Vl.nds]
  | v :: l, h => by
    have h1 := h v List.mem_cons_self
    have h2 := nds_le l fun u hu => h u (List.mem_cons_of_mem _ hu)
    rw [Vl.nds, List.length_cons, Nat.succ_mul]
    omega
theorem nd_mem : ∀ {l : List Vl} {v : Vl}, v ∈ l → v.nd ≤ Vl.nds l
  | u :: l, v, h => by
    rw [Vl.nds]
    rcases List.mem_cons.mp h with rfl | h
    · omega
    · have := nd_mem h
      omega
mutual
theorem cmp_eq : ∀ a b : Vl, cmpV a b = 0 ↔ a = b
  | .int i, .int j => by
    rw [cmpV]
    constructor
    · intro h
      split at h
      · cases h
      · split at h
        · cases h
        · congr; omega
    · intro h; cases h; simp
  | .int _, .tup _ => by rw [cmpV]; constructor <;> (intro h; cases h)
  | .tup _, .int _ => by rw [cmpV]; constructor <;> (intro h; cases h)
  | .tup l, .tup m => by
    rw [cmpV]
    constructor
    · intro h
      split at h
      · cases h
      · split at h
        · cases h
        · rw [(cmps_eq l m (by omega)).mp h]
    · intro h
      cases h
      simp [(cmps_eq l l rfl).mpr rfl]
theorem cmps_eq : ∀ l m : List Vl, l.length = m.length → (cmpVs l m = 0 ↔ l = m)
  | [], [], _ => by simp [cmpVs]
  | a :: l, b :: m, h => by
    have h' : l.length = m.length := by simpa using h
    rw [cmpVs]
    constructor
    · intro q
      split at q
      · rename_i h0
        rw [(cmp_eq a b).mp h0, (cmps_eq l m h').mp q]
      · rename_i h0
        exact absurd q h0
    · intro q
      cases q
      rw [if_pos ((cmp_eq a a).mpr rfl)]
      exact (cmps_eq l l rfl).mpr rfl
  | [], _ :: _, h => by cases h
  | _ :: _, [], h => by cases h
end
theorem cmp_refl (a : Vl) : cmpV a a = 0 := (cmp_eq a a).mpr rfl
/-! as data -/
mutual
def Vl.pd : Vl → PyData
  | .int i => .int i
  | .tup l => .tuple (Vl.pds l)
def Vl.pds : List Vl → List PyData
  | [] => []
  | v :: l => v.pd :: Vl.pds l
end
mutual
theorem pd_d (f : Nat → Option PyData) : ∀ v : Vl, pdW f v.d = some v.pd
  | .int i => by rw [Vl.d, Vl.pd, pdW]
  | .tup l => by rw [Vl.d, Vl.pd, pdW, pds_d f l]; rfl
theorem pds_d (f : Nat → Option PyData) : ∀ l : List Vl, pdWs f (Vl.ds l) = some (Vl.pds l)
  | [] => by rw [Vl.ds, Vl.pds, pdWs]
  | v :: l => by rw [Vl.ds, Vl.pds, pdWs, pd_d f v, pds_d f l]
end
theorem pdN_d (n : Nat) (S : Sto) (v : Vl) : pdN n S v.d = some v.pd := by
  cases n <;> exact pd_d _ v
mutual
theorem eqv_pd : ∀ a b : Vl, PyData.eqv a.pd b.pd = decide (cmpV a b = 0)
  | .int i, .int j => by
    rw [Vl.pd, Vl.pd, PyData.eqv, cmpV]
    by_cases h : i = j
    · subst h; simp
    · rw [show (i == j) = false from beq_false_of_ne h]
      symm
      apply decide_eq_false
      split
      · decide
      · split
        · decide
        · omega
  | .int _, .tup _ => by rw [Vl.pd, Vl.pd, PyData.eqv, cmpV]; rfl
  | .tup _, .int _ => by rw [Vl.pd, Vl.pd, PyData.eqv, cmpV]; rfl
  | .tup l, .tup m => by
    rw [Vl.pd, Vl.pd, PyData.eqv, eqvs_pd l m, cmpV]
    by_cases h1 : l.length < m.length
    · rw [if_pos h1, decide_eq_false fun q => by omega]; rfl
    · by_cases h2 : m.length < l.length
      · rw [if_neg h1, if_pos h2, decide_eq_false fun q => by omega]; rfl
      · rw [if_neg h1, if_neg h2]
        by_cases h3 : cmpVs l m = 0
        · rw [decide_eq_true h3, decide_eq_true ⟨by omega, h3⟩]
        · rw [decide_eq_false h3, decide_eq_false fun q => h3 q.2]
theorem eqvs_pd : ∀ l m : List Vl, PyData.eqvAll (Vl.pds l) (Vl.pds m) = decide (l.length = m.length ∧ cmpVs l m = 0)
  | [], [] => by simp [Vl.pds, PyData.eqvAll, cmpVs]
  | a :: l, b :: m => by
    rw [Vl.pds, Vl.pds, PyData.eqvAll, eqv_pd a b, eqvs_pd l m, cmpVs]
    by_cases h1 : cmpV a b = 0
    · rw [decide_eq_true h1, if_pos h1, Bool.true_and]
      by_cases h2 : l.length = m.length ∧ cmpVs l m = 0
      · rw [decide_eq_true h2, decide_eq_true ⟨by simpa using h2.1, h2.2⟩]
      · rw [decide_eq_false h2, decide_eq_false fun q => h2 ⟨by simpa using q.1, q.2⟩]
    · rw [decide_eq_false h1, if_neg h1, Bool.false_and, decide_eq_false fun q => h1 q.2]
  | [], _ :: _ => by simp [Vl.pds, PyData.eqvAll]
  | _ :: _, [] => by simp [Vl.pds, PyData.eqvAll]
end
mutual
theorem canLay_pd : ∀ v : Vl, PyData.canLay0 v.pd = true
  | .int _ => by rw [Vl.pd, PyData.canLay0]
  | .tup l => by rw [Vl.pd, PyData.canLay0]; exact canLays_pd l
theorem canLays_pd : ∀ l : List Vl, PyData.canLayAll0 (Vl.pds l) = true
  | [] => by rw [Vl.pds, PyData.canLayAll0]
  | v :: l => by rw [Vl.pds, PyData.canLayAll0, canLay_pd v, canLays_pd l]; rfl
end
theorem depths_le {n : Nat} : ∀ l : List Vl, (∀ v ∈ l, v.pd.depth ≤ n) → PyData.depthAll (Vl.pds l) ≤ n
  | [], _ => by simp [Vl.pds, PyData.depthAll]
  | v :: l, h => by
    rw [Vl.pds, PyData.depthAll]
    exact Nat.max_le.mpr ⟨h v List.mem_cons_self, depths_le l fun u hu => h u (List.mem_cons_of_mem _ hu)⟩
theorem depth_ok : ∀ (n : Nat) (v : Vl), vok n v → v.pd.depth ≤ n
  | _, .int _, _ => by simp [Vl.pd, PyData.depth]
  | 0, .tup _, h => h.elim
  | n + 1, .tup l, h => by
    rw [Vl.pd, PyData.depth]
    exact Nat.succ_le_succ (depths_le l fun v hv => depth_ok n v (h.2 v hv))
theorem shaped_pd {n : Nat} {v : Vl} (h : vok n v) (hn : n ≤ 64) : SeqAt.shaped v.pd = true := by
  unfold SeqAt.shaped
  rw [canLay_pd, Bool.true_and]
  exact decide_eq_true (Nat.le_trans (depth_ok n v h) hn)
theorem eqD_v {n : Nat} {a b : Vl} (ha : vok n a) (hb : vok n b) (hn : n ≤ 64) (S : Sto) : eqD S a.d b.d = some (decide (cmpV a b = 0)) := by
  unfold eqD
  rw [pdN_d, pdN_d]
  simp only [shaped_pd ha hn, shaped_pd hb hn, Bool.and_self, if_true, eqv_pd]
theorem eqC_v {n : Nat} {a b : Vl} (ha : vok n a) (hb : vok n b) (hn : n ≤ 64) (S : Sto) : eqC S a.d b.d = some (decide (cmpV a b = 0)) := by
  have e : strD a.d b.d = none := by cases a <;> cases b <;> simp [Vl.d, strD]
  unfold eqC
  rw [e]
  exact eqD_v ha hb hn S
/-! ### the store grows, nothing else -/
structure Ext (S S' : Sto) : Prop where
  len : S.length ≤ S'.length
  get : ∀ i, i < S.length → S'[i]? = S[i]?
theorem Ext.refl (S : Sto) : Ext S S := ⟨Nat.le_refl _, fun _ _ => rfl⟩
theorem Ext.trans {S S1 S2 : Sto} (a : Ext S S1) (b : Ext S1 S2) : Ext S S2 := ⟨Nat.le_trans a.len b.len, fun i h => (b.get i (Nat.lt_of_lt_of_le h a.len)).trans (a.get i h)⟩
theorem Ext.app (S : Sto) (l : Sto) : Ext S (S ++ l) := ⟨by simp, fun i h => List.getElem?_append_left h⟩
theorem Ext.set {S S1 : Sto} (a : Ext S S1) {i : Nat} (h : S.length ≤ i) (o : Ob) : Ext S (S1.set i o) := ⟨by simpa using a.len, fun j hj => by rw [List.getElem?_set_ne (by omega)]; exact a.get j hj⟩
/-- .. but the row at r -/
structure ExtR (r : Nat) (S S' : Sto) : Prop where
  len : S.length ≤ S'.length
  get : ∀ i, i < S.length → i ≠ r → S'[i]? = S[i]?
theorem ExtR.refl (r : Nat) (S : Sto) : ExtR r S S := ⟨Nat.le_refl _, fun _ _ _ => rfl⟩
theorem ExtR.trans {r : Nat} {S S1 S2 : Sto} (a : ExtR r S S1) (b : ExtR r S1 S2) : ExtR r S S2 := ⟨Nat.le_trans a.len b.len, fun i h hr => (b.get i (Nat.lt_of_lt_of_le h a.len) hr).trans (a.get i h hr)⟩
theorem Ext.toR {S S1 : Sto} (a : Ext S S1) (r : Nat) : ExtR r S S1 := ⟨a.len, fun i h _ => a.get i h⟩
theorem Fr.toR {r : Nat} {S S1 : Sto} (a : Fr r S S1) : ExtR r S S1 := ⟨Nat.le_of_eq a.len.symm, fun i _ h => a.get i h⟩
theorem ExtR.set {r : Nat} {S S1 : Sto} (a : ExtR r S S1) {i : Nat} (h : S.length ≤ i) (o : Ob) : ExtR r S (S1.set i o) := ⟨by simpa using a.len, fun j hj hr => by rw [List.getElem?_set_ne (by omega)]; exact a.get j hj hr⟩
/-- a while by a measure -/
theorem whL_by {c : Rho → Sto → Mo D} {body : Rho → Sto → MoS} {Z : Fl → Rho → Sto → Prop} {E : Exn → Sto → Prop} (I : Rho → Sto → Prop) (μ : Rho → Sto → Nat)
    (step : ∀ ρ S, I ρ S → wp (c ρ S) (fun x S1 => cas x (wpS (body ρ S1) (lpQ (fun ρ' S' => I ρ' S' ∧ μ ρ' S' < μ ρ S) Z) E) (Z .nx ρ S1)) E) :
    ∀ (n : Nat) (ρ : Rho) (S : Sto), I ρ S → μ ρ S < n → wpS (whL c body n ρ S) Z E := by
  intro n
  induction n with
  | zero => intro ρ S _ h; omega
  | succ n ih =>
    intro ρ S hI hm
    have h := step ρ S hI
    rw [whL, wpS_bnS]
    refine wp_mono h (fun x S1 hx => ?_) fun _ _ z => z
    cases x with
    | bl b =>
      cases b with
      | false => exact hx
      | true =>
        dsimp only
        simp only [cas_true] at hx
        cases q : body ρ S1 with
        | none => rw [q] at hx; exact hx.elim
        | some o =>
          rw [q] at hx
          cases o with
          | er x S2 => exact hx
          | ok f ρ2 S2 => cases f with
            | nx => exact ih ρ2 S2 hx.1 (by have := hx.2; omega)
            | ct => exact ih ρ2 S2 hx.1 (by have := hx.2; omega)
            | brk => exact hx
            | ret d => exact hx
    | _ => exact hx.elim
end Mx
set_option Elab.async false
set_option linter.all false
set_option maxRecDepth 100000
set_option maxHeartbeats 4000000
namespace Mx
open PySem L2
section
variable {S : Sto} {i n j : Nat} {l l' : List D} {d e : D}
@[simp] theorem t_ref : tru S (.ref n) = (lstOf S n).map fun l => !l.isEmpty := rfl
theorem m_pop : Mx.mt1 .pop (.ref n) [] S = (mutOf S n).bind fun l => (l[l.length - 1]?).map fun d => (d, S.set n (.lst l.dropLast)) := by
  unfold Mx.mt1
  dsimp only
  cases mutOf S n with
  | none => rfl
  | some l => dsimp only [Option.bind_some]; cases l[l.length - 1]? <;> rfl
@[simp] theorem m_popR (h : mutOf S n = some (l ++ [d])) : Mx.mt1 .pop (.ref n) [] S = some (d, S.set n (.lst l)) := by
  rw [m_pop, h]
  simp
@[simp] theorem m_extR : Mx.mt1 .extend (.ref n) [.ref j] S = (mutOf S n).bind fun l => (mutOf S j).bind fun m => if l.length + m.length ≤ LIM then some (.non, S.set n (.lst (l ++ m))) else none := by
  unfold Mx.mt1
  dsimp only
  cases mutOf S n <;> cases mutOf S j <;> rfl
@[simp] theorem m_extT : Mx.mt1 .extend (.ref n) [.tup l'] S = (mutOf S n).bind fun l => if l.length + l'.length ≤ LIM then some (.non, S.set n (.lst (l ++ l'))) else none := by
  unfold Mx.mt1
  dsimp only
  cases mutOf S n <;> rfl
@[simp] theorem y_intI {z : Int} : isTy S (.int z) .int = some true := rfl
@[simp] theorem y_intT {z : Int} : isTy S (.int z) .tuple = some false := rfl
@[simp] theorem y_intS {z : Int} : isTy S (.int z) .str = some false := rfl
@[simp] theorem y_tupI : isTy S (.tup l) .int = some false := rfl
@[simp] theorem y_tupB : isTy S (.tup l) .bool = some false := rfl
@[simp] theorem y_tupS : isTy S (.tup l) .str = some false := rfl
@[simp] theorem y_strS {x : Str} : isTy S (.str x) .str = some true := rfl
@[simp] theorem y_strI {x : Str} : isTy S (.str x) .int = some false := rfl
@[simp] theorem y_strT {x : Str} : isTy S (.str x) .tuple = some false := rfl
@[simp] theorem y_strB {x : Str} : isTy S (.str x) .bool = some false := rfl
@[simp] theorem y_blI {x : Bool} : isTy S (.bl x) .int = some true := rfl
@[simp] theorem y_blT {x : Bool} : isTy S (.bl x) .tuple = some false := rfl
@[simp] theorem y_blS {x : Bool} : isTy S (.bl x) .str = some false := rfl
@[simp] theorem y_non {t : Ty} : isTy S .non t = some false := rfl
@[simp] theorem g_ns {is : List Nat} {ρ : Rho} : asgT (.ns is) (.tup l) ρ = setAll is l ρ := rfl
@[simp] theorem setAll_nil {ρ : Rho} : setAll [] [] ρ = some ρ := rfl
@[simp] theorem setAll_cons {is : List Nat} {ρ : Rho} : setAll (i :: is) (d :: l) ρ = setAll is l (ρ.set i (some d)) := rfl
@[simp] theorem seq_tup : seqOf S (.tup l) = some l := rfl
@[simp] theorem seq_ref : seqOf S (.ref n) = lstOf S n := rfl
@[simp] theorem b_tupR : bi1 .tuple [.ref n] S = (lstOf S n).map fun l => (.tup l, S) := rfl
@[simp] theorem b_tupT : bi1 .tuple [.tup l] S = some (.tup l, S) := rfl
@[simp] theorem b_lstT : bi1 .list [.tup l] S = some (.ref S.length, S ++ [.lst l]) := rfl
@[simp] theorem b_lstR : bi1 .list [.ref n] S = (lstOf S n).map fun l => (.ref S.length, S ++ [.lst l]) := rfl
@[simp] theorem b_all : bi1 .all [.ref n] S = ((lstOf S n).bind blL).map fun bs => (.bl (bs.all id), S) := rfl
@[simp] theorem b_any : bi1 .any [.ref n] S = ((lstOf S n).bind blL).map fun bs => (.bl (bs.any id), S) := rfl
@[simp] theorem b_intB {x : Bool} : bi1 .int [.bl x] S = some (.int (if x then 1 else 0), S) := rfl
@[simp] theorem lz_tt : lz1 [.tup l, .tup l'] S = if l.length ≤ LIM then some (.ref S.length, S ++ [.lst (zipD l l')]) else none := rfl
@[simp] theorem z_it : it1 S .zip [d, e] = (seqOf S d).bind fun _ => (seqOf S e).map fun _ => .zp d e := by
  show (match seqOf S d, seqOf S e with
    | some _, some _ => some (Itr.zp d e)
    | _, _ => none) = _
  cases seqOf S d <;> cases seqOf S e <;> rfl
end
/-! ### _rank, compare -/
def rkV : Vl → Vl
  | .int i => .tup [.int 0, .int i]
  | .tup l => .tup [.int 1, .int l.length]
def b_rank : Sms :=
 (.cons (.iff (.isi (.var 0) .int)
  (.cons (.ret (.tup (.cons (.cst (.int 0)) (.cons (.var 0) .nil)))) .nil)
  .nil) <|
 (.cons (.ret (.tup (.cons (.cst (.int 1)) (.cons (.bi .len (.cons (.var 0) .nil)) .nil)))) .nil))
def b_cmp (iR : Nat) : Sms :=
 (.cons (.asg (.nm 2) (.lst (.cons (.tup (.cons (.var 0) (.cons (.var 1) .nil))) .nil))) <|
 (.cons (.whl (.var 2)
  (.cons (.asg (.ns [3, 4]) (.mth .pop (.var 2) .nil)) <|
  (.cons (.iff (.cmp .ne (.cal iR (.cons (.var 3) .nil)) (.cal iR (.cons (.var 4) .nil)))
   (.cons (.ret (.ite (.cmp .lt (.cal iR (.cons (.var 3) .nil)) (.cal iR (.cons (.var 4) .nil))) (.neg (.cst (.int 1))) (.cst (.int 1)))) .nil)
   .nil) <|
  (.cons (.iff (.isi (.var 3) .tuple)
   (.cons (.expr (.mth .extend (.var 2) (.cons (.rvs (.lz (.cons (.var 3) (.cons (.var 4) .nil)))) .nil))) .nil)
   .nil) .nil)))) <|
 (.cons (.ret (.cst (.int 0))) .nil)))
def pairD (p : Vl × Vl) : D := .tup [p.1.d, p.2.d]
def cmpStk : List (Vl × Vl) → Int
  | [] => 0
  | p :: T => if cmpV p.1 p.2 = 0 then cmpStk T else cmpV p.1 p.2
def ndStk : List (Vl × Vl) → Nat
  | [] => 0
  | p :: T => p.1.nd + p.2.nd + ndStk T
theorem cmpStk_zip : ∀ (l m : List Vl) (T : List (Vl × Vl)), cmpStk (l.zip m ++ T) = if cmpVs l m = 0 then cmpStk T else cmpVs l m
  | [], m, T => by simp [cmpVs]
  | a :: l, [], T => by simp [cmpVs]
  | a :: l, b :: m, T => by
    rw [List.zip_cons_cons, List.cons_append, cmpStk, cmpVs, cmpStk_zip l m T]
    by_cases h : cmpV a b = 0
    · simp [h]
    · simp [h]
theorem ndStk_zip : ∀ (l m : List Vl) (T : List (Vl × Vl)), ndStk (l.zip m ++ T) ≤ Vl.nds l + Vl.nds m + ndStk T
  | [], m, T => by simp [Vl.nds]
  | a :: l, [], T => by simp [Vl.nds]
  | a :: l, b :: m, T => by
    have := ndStk_zip l m T
    rw [List.zip_cons_cons, List.cons_append, ndStk, Vl.nds, Vl.nds]
    dsimp only
    omega
theorem len_ndStk : ∀ T : List (Vl × Vl), T.length ≤ ndStk T
  | [] => by simp [ndStk]
  | p :: T => by
    have h1 := len_ndStk T
    have h2 := nd_pos p.1
    rw [ndStk, List.length_cons]
    omega
theorem zipD_ds (l m : List Vl) : zipD (l.map Vl.d) (m.map Vl.d) = (l.zip m).map pairD := by
  unfold zipD
  induction l generalizing m with
  | nil => simp
  | cons a l ih => cases m with
    | nil => simp
    | cons b m =>
      simp only [List.map_cons, List.zipWith_cons_cons, List.zip_cons_cons]
      rw [ih m]
      rfl
section
variable {Fs : List Fn} {G : List D} {w k iR iC : Nat} {S : Sto}
theorem rank_spec (hR : Fs[iR]? = some ⟨1, 1, b_rank⟩) (v : Vl) (S : Sto) : wp (run Fs G w (k + 1) iR [v.d] S) (fun d S' => S' = S ∧ d = (rkV v).d) nE := by
  refine wp_run hR rfl ?_
  cases v with
  | int i =>
    rw [d_int]
    simp [b_rank, enter, rkV, d_tup, d_int, LIM]
  | tup l =>
    rw [d_tup]
    simp [b_rank, enter, rkV, d_tup, d_int, LIM]
theorem rk_ok (v : Vl) : vok 1 (rkV v) := by
  cases v <;> exact ⟨by simp, fun u hu => by simp at hu; rcases hu with rfl | rfl <;> exact trivial⟩
def rkL : Vl → List Int
  | .int i => [0, i]
  | .tup l => [1, l.length]
def inner : Vl → Vl → Int
  | .tup l, .tup m => cmpVs l m
  | _, _ => 0
theorem rk_dec (a b : Vl) : (cmpV (rkV a) (rkV b) = 0 ∧ cmpV a b = inner a b ∧ ((∃ i, a = .int i) ∨ ∃ l m, a = .tup l ∧ b = .tup m ∧ l.length = m.length)) ∨ (cmpV (rkV a) (rkV b) ≠ 0 ∧ (cmpV a b = if HT.lexLt (rkL a) (rkL b) then -1 else 1) ∧ cmpV a b ≠ 0) := by
  cases a with
  | int i => cases b with
    | int j =>
      rcases Int.lt_trichotomy i j with h | h | h
      · right; simp [rkV, cmpV, cmpVs, rkL, HT.lexLt, h]; omega
      · left; subst h; simp [rkV, cmpV, cmpVs, inner]
      · have h' : ¬ i < j := by omega
        have h2 : i ≠ j := by omega
        right; simp [rkV, cmpV, cmpVs, rkL, HT.lexLt, h, h', h2]
    | tup m => right; simp [rkV, cmpV, cmpVs, rkL, HT.lexLt]
  | tup l => cases b with
    | int j => right; simp [rkV, cmpV, cmpVs, rkL, HT.lexLt]
    | tup m =>
      rcases Nat.lt_trichotomy l.length m.length with h | h | h
      · have h' : (l.length : Int) < m.length := by omega
        right; simp [rkV, cmpV, cmpVs, rkL, HT.lexLt, h, h']; omega
      · left; simp [rkV, cmpV, cmpVs, inner, h]
      · have h' : ¬ l.length < m.length := by omega
        have h2 : l.length ≠ m.length := by omega
        have h3 : ¬ (l.length : Int) < m.length := by omega
        have h4 : (m.length : Int) < l.length := by omega
        right; simp [rkV, cmpV, cmpVs, rkL, HT.lexLt, h, h', h2, h3, h4]
        try omega
theorem lt_rk (a b : Vl) (S : Sto) : cm2 .lt (rkV a).d (rkV b).d S = some (HT.lexLt (rkL a) (rkL b)) := by
  cases a <;> cases b <;> simp [rkV, d_tup, d_int, rkL]
theorem ne_rk (a b : Vl) (S : Sto) : cm2 .ne (rkV a).d (rkV b).d S = some (!decide (cmpV (rkV a) (rkV b) = 0)) := by
  show (eqC S _ _).map _ = _
  rw [eqC_v (rk_ok a) (rk_ok b) (by decide)]
  rfl
end
/-- ahead of a turn of compare's loop -/
structure CmI (S0 : Sto) (a b : Vl) (M : Nat) (ρ : Rho) (S : Sto) (T : List (Vl × Vl)) : Prop where
  ex : Ext S0 S
  rho : ∃ x3 x4, ρ = [some a.d, some b.d, some (.ref S0.length), x3, x4]
  stk : S[S0.length]? = some (.lst (T.map pairD).reverse)
  res : cmpStk T = cmpV a b
  nd : ndStk T ≤ M
/-- what is left of the stack at r -/
def stkM (r : Nat) (S : Sto) : List D := match lstOf S r with
  | some l => l
  | none => []
mutual
def dNd : D → Nat
  | .tup l => 1 + dNds l
  | _ => 1
def dNds : List D → Nat
  | [] => 0
  | d :: l => dNd d + dNds l
end
mutual
theorem dNd_d : ∀ v : Vl, dNd v.d = v.nd
  | .int _ => by rw [Vl.d, dNd, Vl.nd]; intro l h; cases h
  | .tup l => by rw [Vl.d, dNd, Vl.nd, dNds_d l]
theorem dNds_d : ∀ l : List Vl, dNds (Vl.ds l) = Vl.nds l
  | [] => by rw [Vl.ds, dNds, Vl.nds]
  | v :: l => by rw [Vl.ds, dNds, Vl.nds, dNd_d v, dNds_d l]
end
theorem dNds_app : ∀ l m : List D, dNds (l ++ m) = dNds l + dNds m
  | [], m => by simp [dNds]
  | v :: l, m => by rw [List.cons_append, dNds, dNds, dNds_app l m]; omega
theorem dNds_rev : ∀ l : List D, dNds l.reverse = dNds l
  | [] => rfl
  | v :: l => by rw [List.reverse_cons, dNds_app, dNds_rev l]; simp [dNds]; omega
/-- the pairs' sizes -/
def pNds : List D → Nat
  | [] => 0
  | .tup [x, y] :: l => dNd x + dNd y + pNds l
  | _ :: l => pNds l
theorem pNds_pair (p : Vl × Vl) (l : List D) : pNds (pairD p :: l) = p.1.nd + p.2.nd + pNds l := by
  rw [pairD, pNds, dNd_d, dNd_d]
theorem pNds_stk : ∀ (T : List (Vl × Vl)) (l : List D), pNds (T.map pairD ++ l) = ndStk T + pNds l
  | [], l => by simp [ndStk]
  | p :: T, l => by
    rw [List.map_cons, List.cons_append, pNds_pair, pNds_stk T l, ndStk]
    omega
theorem ndStk_app : ∀ T U : List (Vl × Vl), ndStk (T ++ U) = ndStk T + ndStk U
  | [], U => by simp [ndStk]
  | p :: T, U => by rw [List.cons_append, ndStk, ndStk, ndStk_app T U]; omega
theorem ndStk_rev : ∀ T : List (Vl × Vl), ndStk T.reverse = ndStk T
  | [] => rfl
  | p :: T => by rw [List.reverse_cons, ndStk_app, ndStk_rev T]; simp [ndStk]; omega
theorem pNds_rev (T : List (Vl × Vl)) : pNds (T.map pairD).reverse = ndStk T := by
  have := pNds_stk T.reverse []
  rw [List.append_nil, ← List.map_reverse] at *
  rw [this, ndStk_rev]
  simp [pNds]
theorem compare_spec {Fs : List Fn} {G : List D} {w k iR iC : Nat} (hC : Fs[iC]? = some ⟨2, 5, b_cmp iR⟩) (hR : Fs[iR]? = some ⟨1, 1, b_rank⟩) {a b : Vl} (hM : a.nd + b.nd ≤ 100000) (hw : 400000 ≤ w) (S : Sto) :
    wp (run Fs G w (k + 2) iC [a.d, b.d] S) (fun d S' => Ext S S' ∧ d = .int (cmpV a b)) nE := by
  refine wp_run hC rfl ?_
  simp [b_cmp, enter, LIM]
  refine whL_by (fun ρ S1 => ∃ T, CmI S a b (a.nd + b.nd) ρ S1 T) (fun ρ S1 => pNds (stkM S.length S1)) ?_ w _ _ ⟨[(a, b)], ⟨Ext.app _ _, ⟨none, none, rfl⟩, by simp [pairD], by simp [cmpStk]; intro h; exact h.symm, by simp [ndStk]⟩⟩ ?_
  · rintro ρ S1 ⟨T, hx, ⟨x3, x4, rfl⟩, hs, hr, hn⟩
    have hL := lst_lst hs
    have hlt := lt_of_get hs
    simp [hL]
    cases T with
    | nil =>
      simp
      exact ⟨hx, by rw [← hr]; rfl⟩
    | cons p T =>
      obtain ⟨u, v⟩ := p
      have hmu : mutOf S1 S.length = some ((T.map pairD).reverse ++ [pairD (u, v)]) := by rw [mut_lst hs]; simp
      simp [m_popR hmu, pairD]
      refine ⟨by simp [hL], ?_⟩
      refine wp_use (rank_spec hR u _) ?_
      rintro d S2 ⟨rfl, rfl⟩
      refine wp_use (rank_spec hR v _) ?_
      rintro d S2 ⟨rfl, rfl⟩
      rw [ne_rk]
      simp only [opt_some, cas_not]
      have hx2 : Ext S (S1.set S.length (.lst (T.map pairD).reverse)) := hx.set (Nat.le_refl _) _
      have ndp : u.nd + v.nd + ndStk T ≤ a.nd + b.nd := hn
      rcases rk_dec u v with ⟨q0, q1, q2⟩ | ⟨q0, q1, q2⟩
      · rw [decide_eq_true q0]
        simp
        rcases q2 with ⟨i, rfl⟩ | ⟨l, m, rfl, rfl, hlm⟩
        · rw [d_int]
          simp
          have z0 : cmpV (.int i) v = 0 := q1
          refine ⟨⟨T, hx2, ⟨_, _, rfl⟩, by simp [hlt], ?_, by omega⟩, ?_⟩
          · rw [← hr, cmpStk, if_pos z0]
          · have e1 : stkM S.length (S1.set S.length (.lst (T.map pairD).reverse)) = (T.map pairD).reverse := by simp [stkM, hlt]
            have e2 : stkM S.length S1 = (((.int i, v) :: T).map pairD).reverse := by simp [stkM, hL]
            rw [e1, e2, pNds_rev, pNds_rev, ndStk]
            have := nd_pos v
            simp [Vl.nd]
            omega
        · rw [d_tup, d_tup]
          have hl1 := len_nds l
          have hz := ndStk_zip l m T
          simp only [Vl.nd] at ndp
          have zl := len_ndStk (l.zip m ++ T)
          have hlt2 : S.length < (S1.set S.length (Ob.lst (T.map pairD).reverse)).length := by simpa using hlt
          have e2 : stkM S.length S1 = (((.tup l, .tup m) :: T).map pairD).reverse := by simp [stkM, hL]
          have hS2 : (S1.set S.length (Ob.lst (T.map pairD).reverse))[S.length]? = some (.lst (T.map pairD).reverse) := by simp [hlt]
          generalize S1.set S.length (Ob.lst (T.map pairD).reverse) = S2 at hx2 hlt2 hS2 ⊢
          have g0 := lst_lst hS2
          simp [g0, zipD_ds, LIM]
          refine ⟨by omega, ?_⟩
          have g1 : lstOf (S2 ++ [Ob.lst ((l.zip m).map pairD)]) S2.length = some ((l.zip m).map pairD) := lst_app2
          rw [g1]
          simp
          have hx3 : Ext S (S2 ++ [Ob.lst ((l.zip m).map pairD), Ob.lst ((l.zip m).map pairD).reverse]) := hx2.trans (Ext.app _ _)
          have g3 : (S2 ++ [Ob.lst ((l.zip m).map pairD), Ob.lst ((l.zip m).map pairD).reverse])[S.length]? = some (.lst (T.map pairD).reverse) := by rw [List.getElem?_append_left hlt2, hS2]
          have g4 : (S2 ++ [Ob.lst ((l.zip m).map pairD), Ob.lst ((l.zip m).map pairD).reverse])[S2.length + 1]? = some (.lst ((l.zip m).map pairD).reverse) := by rw [List.getElem?_append_right (by omega)]; simp
          have h3 := lt_of_get g3
          generalize S2 ++ [Ob.lst ((l.zip m).map pairD), Ob.lst ((l.zip m).map pairD).reverse] = S3 at hx3 g3 g4 h3 ⊢
          have hzl : (l.zip m).length + T.length ≤ 200000 := by
            rw [List.length_append] at zl
            omega
          simp [mut_lst g3, mut_lst g4, LIM]
          simp at hzl
          refine ⟨by omega, ⟨l.zip m ++ T, hx3.set (Nat.le_refl _) _, ⟨_, _, rfl⟩, by simp [h3], ?_, by omega⟩, ?_⟩
          · rw [← hr, cmpStk_zip, cmpStk]
            dsimp only
            have z0 : cmpV (.tup l) (.tup m) = cmpVs l m := q1
            rw [z0]
          · have e1 : stkM S.length (S3.set S.length (.lst ((T.map pairD).reverse ++ ((l.zip m).map pairD).reverse))) = ((l.zip m ++ T).map pairD).reverse := by simp [stkM, h3]
            rw [e1, e2, pNds_rev, pNds_rev, ndStk]
            simp only [Vl.nd]
            omega
      · rw [decide_eq_false q0]
        simp
        refine wp_use (rank_spec hR u _) ?_
        rintro d S2 ⟨rfl, rfl⟩
        refine wp_use (rank_spec hR v _) ?_
        rintro d S2 ⟨rfl, rfl⟩
        rw [lt_rk]
        simp
        have z1 : cmpV a b = if HT.lexLt (rkL u) (rkL v) then -1 else 1 := by
          rw [← hr, cmpStk]
          dsimp only
          rw [if_neg q2, q1]
        refine cas_bl (fun h => ?_) fun h => ?_
        · rw [h] at z1
          simp
          exact ⟨hx2, z1.symm⟩
        · rw [h] at z1
          simp
          exact ⟨hx2, z1.symm⟩
  · simp [stkM, lstOf, pNds, dNd_d]
    omega
end Mx
set_option Elab.async false
set_option linter.all false
set_option maxRecDepth 100000
set_option maxHeartbeats 4000000
namespace Mx
open PySem L2
/-! ### walks of any kind -/
/-- only what P names may have changed, the store may have grown -/
structure ExtP (P : Nat → Prop) (S S' : Sto) : Prop where
  len : S.length ≤ S'.length
  get : ∀ i, i < S.length → ¬ P i → S'[i]? = S[i]?
theorem ExtP.refl (P : Nat → Prop) (S : Sto) : ExtP P S S := ⟨Nat.le_refl _, fun _ _ _ => rfl⟩
theorem ExtP.trans {P : Nat → Prop} {S S1 S2 : Sto} (a : ExtP P S S1) (b : ExtP P S1 S2) : ExtP P S S2 := ⟨Nat.le_trans a.len b.len, fun i h hr => (b.get i (Nat.lt_of_lt_of_le h a.len) hr).trans (a.get i h hr)⟩
theorem ExtP.set {P : Nat → Prop} {S S1 : Sto} (a : ExtP P S S1) {i : Nat} (h : S.length ≤ i) (o : Ob) : ExtP P S (S1.set i o) := ⟨by simpa using a.len, fun j hj hr => by rw [List.getElem?_set_ne (by omega)]; exact a.get j hj hr⟩
theorem ExtP.app (P : Nat → Prop) (S : Sto) (l : Sto) : ExtP P S (S ++ l) := ⟨by simp, fun i h _ => List.getElem?_append_left h⟩
theorem ExtP.toE {S S1 : Sto} (a : ExtP (fun _ => False) S S1) : Ext S S1 := ⟨a.len, fun i h => a.get i h (fun z => z)⟩
theorem ExtP.toR {r : Nat} {S S1 : Sto} (a : ExtP (fun i => i = r) S S1) : ExtR r S S1 := ⟨a.len, fun i h z => a.get i h z⟩
theorem Ext.toP {P : Nat → Prop} {S S1 : Sto} (a : Ext S S1) : ExtP P S S1 := ⟨a.len, fun i h _ => a.get i h⟩
theorem ExtR.toP {r : Nat} {S S1 : Sto} (a : ExtR r S S1) : ExtP (fun i => i = r) S S1 := ⟨a.len, fun i h z => a.get i h z⟩
/-- what a comprehension gives: W d (some y): y is taken for d; W d none: d is left out -/
inductive Lc (W : D → Option D → Prop) : List D → List D → Prop
  | nil : Lc W [] []
  | take {d y : D} {L acc : List D} : W d (some y) → Lc W L acc → Lc W (d :: L) (y :: acc)
  | skip {d : D} {L acc : List D} : W d none → Lc W L acc → Lc W (d :: L) acc
theorem Lc.push {W : D → Option D → Prop} {d y : D} {L acc : List D} (h : Lc W L acc) (w : W d (some y)) : Lc W (L ++ [d]) (acc ++ [y]) := by
  induction h with
  | nil => exact .take w .nil
  | take a _ ih => exact .take a ih
  | skip a _ ih => exact .skip a ih
theorem Lc.pass {W : D → Option D → Prop} {d : D} {L acc : List D} (h : Lc W L acc) (w : W d none) : Lc W (L ++ [d]) acc := by
  induction h with
  | nil => exact .skip w .nil
  | take a _ ih => exact .take a ih
  | skip a _ ih => exact .skip a ih
theorem Lc.len {W : D → Option D → Prop} {L acc : List D} (h : Lc W L acc) : acc.length ≤ L.length := by
  induction h with
  | nil => exact Nat.le_refl _
  | take a _ ih => exact Nat.succ_le_succ ih
  | skip a _ ih => exact Nat.le_succ_of_le ih
theorem Lc.map {f : D → D} {L acc : List D} (h : Lc (fun d o => o = some (f d)) L acc) : acc = L.map f := by
  induction h with
  | nil => rfl
  | take a _ ih => cases a; rw [ih]; rfl
  | skip a _ ih => cases a
theorem Lc.filter {p : D → Bool} {L acc : List D} (h : Lc (fun d o => o = if p d then some d else none) L acc) : acc = L.filter p := by
  induction h with
  | nil => rfl
  | @take d y L acc a _ ih =>
    by_cases q : p d = true
    · rw [if_pos q] at a; cases a; rw [List.filter_cons_of_pos q, ih]
    · rw [if_neg q] at a; cases a
  | @skip d L acc a _ ih =>
    by_cases q : p d = true
    · rw [if_pos q] at a; cases a
    · rw [List.filter_cons_of_neg q, ih]
theorem Lc.each {W : D → Option D → Prop} {T : D → Prop} {L acc : List D} (h : Lc W L acc) (t : ∀ d y, W d (some y) → T y) : ∀ y ∈ acc, T y := by
  induction h with
  | nil => intro y hy; cases hy
  | take a _ ih =>
    intro y hy
    rcases List.mem_cons.mp hy with rfl | hy
    · exact t _ _ a
    · exact ih y hy
  | skip a _ ih => exact ih
section
variable {E : Exn → Sto → Prop} {Q : D → Sto → Prop} {Z : Fl → Rho → Sto → Prop} {t : Tg} {it : Itr} {L : List D}
theorem forL_nx {body : Rho → Sto → MoS} (I : Nat → Rho → Sto → Prop) (hnx : ∀ i ρ S, I i ρ S → nxt it i S = some L[i]?)
    (hI : ∀ i ρ S d, L[i]? = some d → I i ρ S → ∃ ρ1, asgT t d ρ = some ρ1 ∧ wpS (body ρ1 S) (lpQ (I (i + 1)) Z) E) (hZ : ∀ ρ S, I L.length ρ S → Z .nx ρ S) :
    ∀ (n i : Nat) (ρ : Rho) (S : Sto), L.length + 1 ≤ n + i → i ≤ L.length → I i ρ S → wpS (forL t it body n i ρ S) Z E := by
  intro n
  induction n with
  | zero => intro i ρ S h1 h2; omega
  | succ n ih =>
    intro i ρ S h1 h2 h
    rw [forL, hnx i ρ S h]
    cases q : L[i]? with
    | none =>
      have : i = L.length := by
        have := List.getElem?_eq_none_iff.mp q
        omega
      subst this
      exact hZ _ _ h
    | some d =>
      have lt : i < L.length := (List.getElem?_eq_some_iff.mp q).1
      obtain ⟨ρ1, e, hb⟩ := hI i ρ S d q h
      simp only [e]
      cases q2 : body ρ1 S with
      | none => rw [q2] at hb; exact hb.elim
      | some o =>
        rw [q2] at hb
        cases o with
        | er x S2 => exact hb
        | ok f ρ2 S2 => cases f with
          | nx => exact ih (i + 1) ρ2 S2 (by omega) lt hb
          | ct => exact ih (i + 1) ρ2 S2 (by omega) lt hb
          | brk => exact hb
          | ret d => exact hb
/-- a comprehension, what its parts do is told by P (what they may change), J (what stands) and W (what comes) -/
theorem lc_gen {el tst : Rho → Sto → Mo D} {ρ : Rho} (P : Nat → Prop) (J : Sto → Prop) (W : D → Option D → Prop) (S : Sto) (hL : L.length < LIM) (hP : ¬ P S.length) (hnx : ∀ i S1, ExtP P (S ++ [.lst []]) S1 ∨ ExtP P S S1 → nxt it i S1 = some L[i]?) (hJ : ∀ S1 o, J S1 → J (S1.set S.length o)) (hJ0 : J (S ++ [.lst []]))
    (step : ∀ (i : Nat) d S1, L[i]? = some d → ExtP P S S1 → S.length < S1.length → J S1 → ∃ ρ1, asgT t d ρ = some ρ1 ∧ wp (tst ρ1 S1) (fun b S2 => ExtP P S1 S2 ∧ J S2 ∧ ∃ c, b = .bl c ∧ if c then wp (el ρ1 S2) (fun y S3 => ExtP P S2 S3 ∧ J S3 ∧ W d (some y)) nE else W d none) nE)
    (hQ : ∀ S' acc, ExtP P S S' → J S' → S'[S.length]? = some (.lst acc) → Lc W L acc → Q (.ref S.length) S') :
    ∀ (n : Nat), L.length + 1 ≤ n → wp (lcL el tst t it ρ S.length n 0 (S ++ [.lst []])) Q E := by
  have main : ∀ (n i : Nat) (S1 : Sto) (acc : List D), L.length + 1 ≤ n + i → i ≤ L.length → ExtP P S S1 → J S1 → S1[S.length]? = some (.lst acc) → Lc W (L.take i) acc → wp (lcL el tst t it ρ S.length n i S1) Q E := by
    intro n
    induction n with
    | zero => intro i S1 acc h1 h2; omega
    | succ n ih =>
      intro i S1 acc h1 h2 hx hj hk hl
      rw [lcL, hnx i S1 (.inr hx)]
      cases q : L[i]? with
      | none =>
        have : i = L.length := by
          have := List.getElem?_eq_none_iff.mp q
          omega
        subst this
        rw [List.take_length] at hl
        exact hQ S1 acc hx hj hk hl
      | some d =>
        have lt : i < L.length := (List.getElem?_eq_some_iff.mp q).1
        have tk : L.take (i + 1) = L.take i ++ [d] := by rw [List.take_add_one, q]; rfl
        obtain ⟨ρ1, e, hb⟩ := step i d S1 q hx (lt_of_get hk) hj
        simp only [e]
        obtain ⟨b, S2, e2, x2, j2, c, rfl, hc⟩ := wp_get hb
        have k2 : S2[S.length]? = some (.lst acc) := by rw [x2.get _ (lt_of_get hk) hP]; exact hk
        rw [e2]
        cases c with
        | false =>
          dsimp only
          exact ih (i + 1) S2 acc (by omega) lt (hx.trans x2) j2 k2 (by rw [tk]; exact hl.pass (by simpa using hc))
        | true =>
          dsimp only
          simp only [if_true] at hc
          obtain ⟨y, S3, e3, x3, j3, hw⟩ := wp_get hc
          have k3 : S3[S.length]? = some (.lst acc) := by rw [x3.get _ (lt_of_get k2) hP]; exact k2
          have la : acc.length < LIM := by
            have h1 := hl.len
            rw [List.length_take] at h1
            omega
          simp only [e3, mut_lst k3, if_pos la]
          exact ih (i + 1) _ (acc ++ [y]) (by omega) lt (((hx.trans x2).trans x3).set (Nat.le_refl _) _) (hJ _ _ j3) (by simp [lt_of_get k3]) (by rw [tk]; exact hl.push hw)
  intro n hn
  exact main n 0 _ [] (by omega) (Nat.zero_le _) (ExtP.app _ _ _) hJ0 (by simp) .nil
/-- every item taken, the parts only add to the store -/
theorem lc_map {el : Rho → Sto → Mo D} {ρ : Rho} (f : D → D) (S : Sto) (hL : L.length < LIM) (hnx : ∀ i S1, Ext S S1 → nxt it i S1 = some L[i]?)
    (step : ∀ (i : Nat) d S1, L[i]? = some d → Ext S S1 → ∃ ρ1, asgT t d ρ = some ρ1 ∧ wp (el ρ1 S1) (fun y S3 => Ext S1 S3 ∧ y = f d) nE)
    (hQ : ∀ S', Ext S S' → S'[S.length]? = some (.lst (L.map f)) → Q (.ref S.length) S') {n : Nat} (hn : L.length + 1 ≤ n) : wp (lcL el (fun _ S => some (.ok (.bl true) S)) t it ρ S.length n 0 (S ++ [.lst []])) Q E := by
  refine lc_gen (fun _ => False) (fun _ => True) (fun d o => o = some (f d)) S hL (fun z => z) (fun i S1 h => hnx i S1 ?_) (fun _ _ _ => trivial) trivial (fun i d S1 hd hx _ _ => ?_) (fun S' acc hx _ hk hl => ?_) n hn
  · rcases h with h | h
    · exact ((Ext.app S _).trans h.toE)
    · exact h.toE
  · obtain ⟨ρ1, e1, e2⟩ := step i d S1 hd hx.toE
    refine ⟨ρ1, e1, ?_⟩
    rw [wp_ok]
    refine ⟨ExtP.refl _ _, trivial, true, rfl, ?_⟩
    rw [if_pos rfl]
    exact wp_mono e2 (fun y S3 h => ⟨h.1.toP, trivial, by rw [h.2]⟩) fun _ _ z => z
  · exact hQ S' hx.toE (by rw [hk, hl.map])
theorem lc_filter {tst : Rho → Sto → Mo D} {el : Rho → Sto → Mo D} {ρ : Rho} (p : D → Bool) (S : Sto) (hL : L.length < LIM) (hnx : ∀ i S1, Ext S S1 → nxt it i S1 = some L[i]?)
    (step : ∀ (i : Nat) d S1, L[i]? = some d → Ext S S1 → ∃ ρ1, asgT t d ρ = some ρ1 ∧ wp (tst ρ1 S1) (fun y S3 => Ext S1 S3 ∧ y = .bl (p d)) nE ∧ ∀ S3, wp (el ρ1 S3) (fun y S4 => S4 = S3 ∧ y = d) nE)
    (hQ : ∀ S', Ext S S' → S'[S.length]? = some (.lst (L.filter p)) → Q (.ref S.length) S') {n : Nat} (hn : L.length + 1 ≤ n) : wp (lcL el tst t it ρ S.length n 0 (S ++ [.lst []])) Q E := by
  refine lc_gen (fun _ => False) (fun _ => True) (fun d o => o = if p d then some d else none) S hL (fun z => z) (fun i S1 h => hnx i S1 ?_) (fun _ _ _ => trivial) trivial (fun i d S1 hd hx _ _ => ?_) (fun S' acc hx _ hk hl => ?_) n hn
  · rcases h with h | h
    · exact ((Ext.app S _).trans h.toE)
    · exact h.toE
  · obtain ⟨ρ1, e1, e2, e3⟩ := step i d S1 hd hx.toE
    refine ⟨ρ1, e1, wp_mono e2 (fun b S2 h => ⟨h.1.toP, trivial, p d, h.2, ?_⟩) fun _ _ z => z⟩
    by_cases q : p d = true
    · rw [if_pos q]
      refine wp_mono (e3 S2) (fun y S3 h => ?_) fun _ _ z => z
      obtain ⟨rfl, rfl⟩ := h
      exact ⟨ExtP.refl _ _, trivial, by rw [if_pos q]⟩
    · rw [if_neg q, if_neg q]
  · exact hQ S' hx.toE (by rw [hk, hl.filter])
theorem nx_items {l : List D} {i : Nat} {S : Sto} : nxt (.items l) i S = some l[i]? := rfl
theorem nx_live {r : Nat} {l : List D} {i : Nat} {S S1 : Sto} (h : S[r]? = some (.lst l)) (hx : Ext S S1) : nxt (.live r) i S1 = some l[i]? := by
  simp only [nxt, lst_lst ((hx.get r (lt_of_get h)).trans h), Option.map_some]
theorem nx_zip {d e : D} {l m : List D} {i : Nat} {S1 : Sto} (h1 : seqOf S1 d = some l) (h2 : seqOf S1 e = some m) (hi : i ≤ l.length ∧ i ≤ m.length) : nxt (.zp d e) i S1 = some (zipD l m)[i]? := by
  simp only [nxt, h1, h2, if_pos hi]
  unfold zipD
  rw [List.getElem?_zipWith]
  cases l[i]? <;> cases m[i]? <;> rfl
end
theorem Ext.at {S S1 : Sto} (h : Ext S S1) {r : Nat} {o : Ob} (e : S[r]? = some o) : S1[r]? = some o := (h.get r (lt_of_get e)).trans e
theorem ExtR.at {q : Nat} {S S1 : Sto} (h : ExtR q S S1) {r : Nat} {o : Ob} (e : S[r]? = some o) (n : r ≠ q) : S1[r]? = some o := (h.get r (lt_of_get e) n).trans e
end Mx
set_option Elab.async false
set_option linter.all false
set_option maxRecDepth 100000
set_option maxHeartbeats 4000000
namespace Mx
open PySem L2
/-! ### sum_of, size_of, is_integer, is_value -/
def b_sumof : Sms :=
 .cons (.asg (.nm 1) (.cst (.int 0))) <|
 .cons (.asg (.nm 2) (.lst (.cons (.var 0) .nil))) <|
 .cons (.whl (.var 2)
  (.cons (.asg (.nm 3) (.mth .pop (.var 2) .nil)) <|
  (.cons (.iff (.isi (.var 3) .int)
   (.cons (.aug 1 .add (.var 3)) .nil)
   (.cons (.expr (.mth .extend (.var 2) (.cons (.var 3) .nil))) .nil)) .nil))) <|
 .cons (.ret (.var 1)) .nil
theorem sums_app : ∀ l m : List Vl, Vl.sums (l ++ m) = Vl.sums l + Vl.sums m
  | [], m => by simp [Vl.sums]
  | v :: l, m => by rw [List.cons_append, Vl.sums, Vl.sums, sums_app l m]; omega
theorem sums_rev : ∀ l : List Vl, Vl.sums l.reverse = Vl.sums l
  | [] => rfl
  | v :: l => by rw [List.reverse_cons, sums_app, sums_rev l]; simp [Vl.sums]; omega
theorem dNds_map (T : List Vl) : dNds (T.map Vl.d) = Vl.nds T := by rw [← ds_map, dNds_d]
theorem dNds_mapr (T : List Vl) : dNds (T.map Vl.d).reverse = Vl.nds T := by rw [dNds_rev, dNds_map]
/-- ahead of a turn of sum_of's loop -/
structure SmI (S0 : Sto) (v : Vl) (M : Nat) (ρ : Rho) (S : Sto) (T : List Vl) (f : Int) : Prop where
  ex : Ext S0 S
  rho : ∃ x3, ρ = [some v.d, some (.int f), some (.ref S0.length), x3]
  stk : S[S0.length]? = some (.lst (T.map Vl.d).reverse)
  res : f + Vl.sums T = v.sum
  nd : Vl.nds T ≤ M
@[simp] theorem au_add {x y : Int} {S : Sto} : aug .add S (.int x) (.int y) = some (.int (x + y)) := rfl
@[simp] theorem au_sub {x y : Int} {S : Sto} : aug .sub S (.int x) (.int y) = some (.int (x - y)) := rfl
section
variable {Fs : List Fn} {G : List D} {w k i : Nat}
theorem sumof_spec (hF : Fs[i]? = some ⟨1, 4, b_sumof⟩) {v : Vl} (hM : v.nd ≤ 100000) (hw : 400000 ≤ w) (S : Sto) :
    wp (run Fs G w (k + 1) i [v.d] S) (fun d S' => Ext S S' ∧ d = .int v.sum) nE := by
  refine wp_run hF rfl ?_
  simp [b_sumof, enter, LIM]
  refine whL_by (fun ρ S1 => ∃ T f, SmI S v v.nd ρ S1 T f) (fun ρ S1 => dNds (stkM S.length S1)) ?_ w _ _ ⟨[v], 0, ⟨Ext.app _ _, ⟨none, rfl⟩, by simp, by simp [Vl.sums], by simp [Vl.nds]⟩⟩ ?_
  · rintro ρ S1 ⟨T, f, hx, ⟨x3, rfl⟩, hs, hr, hn⟩
    have hL := lst_lst hs
    have hlt := lt_of_get hs
    simp [hL]
    cases T with
    | nil =>
      simp
      simp [Vl.sums] at hr
      exact ⟨hx, hr⟩
    | cons u T =>
      have hmu : mutOf S1 S.length = some ((T.map Vl.d).reverse ++ [u.d]) := by rw [mut_lst hs]; simp
      have hx2 : Ext S (S1.set S.length (.lst (T.map Vl.d).reverse)) := hx.set (Nat.le_refl _) _
      have e2 : stkM S.length S1 = ((u :: T).map Vl.d).reverse := by simp [stkM, hL]
      rw [Vl.nds] at hn
      rw [Vl.sums] at hr
      have hS2 : (S1.set S.length (Ob.lst (T.map Vl.d).reverse))[S.length]? = some (.lst (T.map Vl.d).reverse) := by simp [hlt]
      have hp := nd_pos u
      simp [m_popR hmu]
      refine ⟨by simp [hL], ?_⟩
      generalize S1.set S.length (Ob.lst (T.map Vl.d).reverse) = S2 at hx2 hS2 ⊢
      have g0 := lst_lst hS2
      have h2 := lt_of_get hS2
      cases u with
      | int j =>
        rw [d_int]
        simp
        refine ⟨⟨T, f + j, hx2, ⟨_, rfl⟩, hS2, by rw [Vl.sum] at hr; omega, by omega⟩, ?_⟩
        have e1 : stkM S.length S2 = (T.map Vl.d).reverse := by simp [stkM, g0]
        rw [e1, e2, dNds_mapr, dNds_mapr, Vl.nds]
        omega
      | tup l =>
        rw [d_tup]
        have hl1 := len_nds l
        have hl2 := len_nds T
        rw [Vl.nd] at hn
        simp [g0, mut_lst hS2, LIM]
        refine ⟨by omega, ⟨l.reverse ++ T, f, hx2.set (Nat.le_refl _) _, ⟨_, rfl⟩, by simp [h2], ?_, ?_⟩, ?_⟩
        · rw [Vl.sum] at hr
          rw [sums_app, sums_rev]
          exact hr
        · rw [nds_app, nds_rev]
          omega
        · have e1 : stkM S.length (S2.set S.length (.lst ((T.map Vl.d).reverse ++ l.map Vl.d))) = ((l.reverse ++ T).map Vl.d).reverse := by simp [stkM, h2]
          rw [e1, e2, dNds_mapr, dNds_mapr, nds_app, nds_rev, Vl.nds, Vl.nd]
          omega
  · simp [stkM, lstOf, dNds, dNd_d]
    omega
def b_sizeof : Sms :=
 (.cons (.iff (.isi (.var 0) .int)
  (.cons (.ret (.cst (.int 0))) .nil)
  .nil) <|
 (.cons (.ret (.bi .len (.cons (.var 0) .nil))) .nil))
def sizeV : Vl → Int
  | .int _ => 0
  | .tup l => l.length
theorem sizeof_spec (hF : Fs[i]? = some ⟨1, 1, b_sizeof⟩) (v : Vl) (S : Sto) : wp (run Fs G w (k + 1) i [v.d] S) (fun d S' => S' = S ∧ d = .int (sizeV v)) nE := by
  refine wp_run hF rfl ?_
  cases v with
  | int j => rw [d_int]; simp [b_sizeof, enter, sizeV]
  | tup l => rw [d_tup]; simp [b_sizeof, enter, sizeV]
def partsV : Vl → List Vl
  | .int i => [.int i]
  | .tup l => l
def b_partsv : Sms :=
 (.cons (.iff (.isi (.var 0) .int)
  (.cons (.ret (.lst (.cons (.var 0) .nil))) .nil)
  .nil) <|
 (.cons (.ret (.bi .list (.cons (.var 0) .nil))) .nil))
theorem partsv_spec (hF : Fs[i]? = some ⟨1, 1, b_partsv⟩) (v : Vl) (S : Sto) : wp (run Fs G w (k + 1) i [v.d] S) (fun d S' => S' = S ++ [.lst ((partsV v).map Vl.d)] ∧ d = .ref S.length) nE := by
  refine wp_run hF rfl ?_
  cases v with
  | int j => rw [d_int]; simp [b_partsv, enter, partsV, LIM, d_int]
  | tup l => rw [d_tup]; simp [b_partsv, enter, partsV]
def b_isint : Sms :=
 (.cons (.ret (.an (.isi (.var 0) .int) (.nt (.isi (.var 0) .bool)))) .nil)
/-- an integer, not a truth value -/
def isI : D → Bool
  | .int _ => true
  | _ => false
/-- what may be asked for its type -/
def known (S : Sto) : D → Prop
  | .ref j => ∃ l, lstOf S j = some l
  | _ => True
theorem isint_spec (hF : Fs[i]? = some ⟨1, 1, b_isint⟩) {d : D} {S : Sto} (hd : known S d) : wp (run Fs G w (k + 1) i [d] S) (fun y S' => S' = S ∧ y = .bl (isI d)) nE := by
  refine wp_run hF rfl ?_
  cases d with
  | ref j =>
    obtain ⟨l, hl⟩ := hd
    have e : ∀ t, isTy S (.ref j) t = some (match t with | .list => true | _ => false) := fun t => by cases t <;> simp [isTy, hl]
    simp [b_isint, enter, e, isI]
  | _ => simp [b_isint, enter, isI]
def b_hashead : Sms :=
 (.cons (.ret (.an (.isi (.var 0) .tuple) (.an (.cmp .gt (.bi .len (.cons (.var 0) .nil)) (.cst (.int 0))) (.isi (.idx (.var 0) (.cst (.int 0))) .str)))) .nil)
def hasH : D → Bool
  | .tup (.str _ :: _) => true
  | _ => false
theorem hashead_spec (hF : Fs[i]? = some ⟨1, 1, b_hashead⟩) {d : D} {S : Sto} (hd : known S d) (hi : ∀ x l, d = .tup (x :: l) → known S x) : wp (run Fs G w (k + 1) i [d] S) (fun y S' => S' = S ∧ y = .bl (hasH d)) nE := by
  refine wp_run hF rfl ?_
  cases d with
  | ref j =>
    obtain ⟨l, hl⟩ := hd
    have e : ∀ t, isTy S (.ref j) t = some (match t with | .list => true | _ => false) := fun t => by cases t <;> simp [isTy, hl]
    simp [b_hashead, enter, e, hasH]
  | tup l =>
    cases l with
    | nil => simp [b_hashead, enter, hasH]
    | cons x l =>
      have hx := hi x l rfl
      have h1 : (0 : Int) < (l.length : Int) + 1 := by omega
      cases x with
      | ref j =>
        obtain ⟨l2, hl⟩ := hx
        have e : ∀ t, isTy S (.ref j) t = some (match t with | .list => true | _ => false) := fun t => by cases t <;> simp [isTy, hl]
        simp [b_hashead, enter, hasH, h1, e]
      | _ => simp [b_hashead, enter, hasH, h1]
  | _ => simp [b_hashead, enter, hasH]
end
end Mx
set_option Elab.async false
set_option linter.all false
set_option maxRecDepth 100000
set_option maxHeartbeats 4000000
namespace Mx
open PySem L2
section
variable {E : Exn → Sto → Prop} {Q : D → Sto → Prop} {Z : Fl → Rho → Sto → Prop} {t : Tg} {it : Itr} {L : List D}
/-- a comprehension whose parts only add to the store, by what stands at each turn -/
theorem lc_core {el tst : Rho → Sto → Mo D} {ρ : Rho} (A : Nat → List D → Prop) (S : Sto) (hL : L.length < LIM) (hA : ∀ i acc, i ≤ L.length → A i acc → acc.length ≤ i) (hnx : ∀ (i : Nat) S1, i ≤ L.length → Ext S S1 → nxt it i S1 = some L[i]?) (h0 : A 0 [])
    (step : ∀ (i : Nat) d S1 acc, L[i]? = some d → Ext S S1 → A i acc → ∃ ρ1, asgT t d ρ = some ρ1 ∧ wp (tst ρ1 S1) (fun b S2 => Ext S1 S2 ∧ ∃ c, b = .bl c ∧ if c then wp (el ρ1 S2) (fun y S3 => Ext S2 S3 ∧ A (i + 1) (acc ++ [y])) nE else A (i + 1) acc) nE)
    (hQ : ∀ S' acc, Ext S S' → S'[S.length]? = some (.lst acc) → A L.length acc → Q (.ref S.length) S') :
    ∀ (n : Nat), L.length + 1 ≤ n → wp (lcL el tst t it ρ S.length n 0 (S ++ [.lst []])) Q E := by
  have main : ∀ (n i : Nat) (S1 : Sto) (acc : List D), L.length + 1 ≤ n + i → i ≤ L.length → Ext S S1 → S1[S.length]? = some (.lst acc) → A i acc → wp (lcL el tst t it ρ S.length n i S1) Q E := by
    intro n
    induction n with
    | zero => intro i S1 acc h1 h2; omega
    | succ n ih =>
      intro i S1 acc h1 h2 hx hk hl
      rw [lcL, hnx i S1 h2 hx]
      cases q : L[i]? with
      | none =>
        have : i = L.length := by
          have := List.getElem?_eq_none_iff.mp q
          omega
        subst this
        exact hQ S1 acc hx hk hl
      | some d =>
        have lt : i < L.length := (List.getElem?_eq_some_iff.mp q).1
        obtain ⟨ρ1, e, hb⟩ := step i d S1 acc q hx hl
        simp only [e]
        obtain ⟨b, S2, e2, x2, c, rfl, hc⟩ := wp_get hb
        have k2 : S2[S.length]? = some (.lst acc) := x2.at hk
        rw [e2]
        cases c with
        | false =>
          dsimp only
          exact ih (i + 1) S2 acc (by omega) lt (hx.trans x2) k2 (by simpa using hc)
        | true =>
          dsimp only
          simp only [if_true] at hc
          obtain ⟨y, S3, e3, x3, hw⟩ := wp_get hc
          have k3 : S3[S.length]? = some (.lst acc) := x3.at k2
          have la : acc.length < LIM := by
            have h1 := hA i acc h2 hl
            omega
          simp only [e3, mut_lst k3, if_pos la]
          exact ih (i + 1) _ (acc ++ [y]) (by omega) lt (((hx.trans x2).trans x3).set (Nat.le_refl _) _) (by simp [lt_of_get k3]) hw
  intro n hn
  exact main n 0 _ [] (by omega) (Nat.zero_le _) (Ext.app _ _) (by simp) h0
/-- the i-th item gives the i-th of M -/
theorem lc_ix {el : Rho → Sto → Mo D} {ρ : Rho} (M : List D) (S : Sto) (hM : M.length = L.length) (hL : L.length < LIM) (hnx : ∀ (i : Nat) S1, i ≤ L.length → Ext S S1 → nxt it i S1 = some L[i]?)
    (step : ∀ (i : Nat) d e S1, L[i]? = some d → M[i]? = some e → Ext S S1 → ∃ ρ1, asgT t d ρ = some ρ1 ∧ wp (el ρ1 S1) (fun y S3 => Ext S1 S3 ∧ y = e) nE)
    (hQ : ∀ S', Ext S S' → S'[S.length]? = some (.lst M) → Q (.ref S.length) S') {n : Nat} (hn : L.length + 1 ≤ n) : wp (lcL el (fun _ S => some (.ok (.bl true) S)) t it ρ S.length n 0 (S ++ [.lst []])) Q E := by
  refine lc_core (fun i acc => acc = M.take i) S hL (fun i acc hi h => by rw [h, List.length_take]; omega) hnx rfl (fun i d S1 acc hd hx ha => ?_) (fun S' acc hx hk ha => ?_) n hn
  · have lt : i < M.length := by rw [hM]; exact (List.getElem?_eq_some_iff.mp hd).1
    obtain ⟨ρ1, e1, e2⟩ := step i d M[i] S1 hd (List.getElem?_eq_getElem lt) hx
    refine ⟨ρ1, e1, ?_⟩
    rw [wp_ok]
    refine ⟨Ext.refl _, true, rfl, ?_⟩
    rw [if_pos rfl]
    refine wp_mono e2 (fun y S3 h => ⟨h.1, ?_⟩) fun _ _ z => z
    rw [ha, h.2, List.take_add_one, List.getElem?_eq_getElem lt]
    rfl
  · rw [← hM, List.take_length] at ha
    subst ha
    exact hQ S' hx hk
/-- how many pass -/
def cnt : List Bool → Nat
  | [] => 0
  | b :: l => (if b then 1 else 0) + cnt l
theorem cnt_le : ∀ l : List Bool, cnt l ≤ l.length
  | [] => Nat.le_refl _
  | b :: l => by have := cnt_le l; rw [cnt, List.length_cons]; split <;> omega
theorem cnt_app : ∀ l m : List Bool, cnt (l ++ m) = cnt l + cnt m
  | [], m => by simp [cnt]
  | b :: l, m => by rw [List.cons_append, cnt, cnt, cnt_app l m]; omega
theorem cnt_all : ∀ l : List Bool, (cnt l = l.length) ↔ l.all id = true
  | [] => by simp [cnt]
  | b :: l => by
    have h := cnt_all l
    have h2 := cnt_le l
    cases b
    · simp [cnt]; omega
    · simp only [cnt, List.length_cons, if_true, List.all_cons, id, Bool.true_and]
      rw [← h]
      omega
theorem cnt_any : ∀ l : List Bool, (0 < cnt l) ↔ l.any id = true
  | [] => by simp [cnt]
  | b :: l => by
    have h := cnt_any l
    cases b
    · simp only [cnt, Bool.false_eq_true, if_false, List.any_cons, id, Bool.false_or]
      rw [← h]
      omega
    · simp [cnt]; omega
theorem lc_cnt {el tst : Rho → Sto → Mo D} {ρ : Rho} (B : List Bool) (S : Sto) (hM : B.length = L.length) (hL : L.length < LIM) (hnx : ∀ (i : Nat) S1, i ≤ L.length → Ext S S1 → nxt it i S1 = some L[i]?)
    (step : ∀ (i : Nat) d b S1, L[i]? = some d → B[i]? = some b → Ext S S1 → ∃ ρ1, asgT t d ρ = some ρ1 ∧ wp (tst ρ1 S1) (fun y S3 => Ext S1 S3 ∧ y = .bl b) nE ∧ ∀ S3, Ext S1 S3 → wp (el ρ1 S3) (fun y S4 => Ext S3 S4) nE)
    (hQ : ∀ S' acc, Ext S S' → S'[S.length]? = some (.lst acc) → acc.length = cnt B → Q (.ref S.length) S') {n : Nat} (hn : L.length + 1 ≤ n) : wp (lcL el tst t it ρ S.length n 0 (S ++ [.lst []])) Q E := by
  refine lc_core (fun i acc => acc.length = cnt (B.take i)) S hL (fun i acc hi h => by rw [h]; have := cnt_le (B.take i); rw [List.length_take] at this; omega) hnx rfl (fun i d S1 acc hd hx ha => ?_) (fun S' acc hx hk ha => ?_) n hn
  · have lt : i < B.length := by rw [hM]; exact (List.getElem?_eq_some_iff.mp hd).1
    have tk : cnt (B.take (i + 1)) = cnt (B.take i) + if B[i] then 1 else 0 := by
      rw [List.take_add_one, List.getElem?_eq_getElem lt, Option.toList, cnt_app, cnt, cnt]
      omega
    obtain ⟨ρ1, e1, e2, e3⟩ := step i d B[i] S1 hd (List.getElem?_eq_getElem lt) hx
    refine ⟨ρ1, e1, wp_mono e2 (fun b S2 h => ⟨h.1, B[i], h.2, ?_⟩) fun _ _ z => z⟩
    by_cases q : B[i] = true
    · rw [if_pos q]
      refine wp_mono (e3 S2 h.1) (fun y S3 h => ⟨h, ?_⟩) fun _ _ z => z
      rw [List.length_append, ha, tk, if_pos q]
      rfl
    · rw [if_neg q, ha, tk, if_neg q]
      rfl
  · rw [← hM, List.take_length] at ha
    exact hQ S' acc hx hk ha
end
/-! ### _law_compare, _law_sum -/
def b_lcmp (i : Nat) : Sms :=
 .cons (.iff (.an (.isi (.var 0) .int) (.isi (.var 1) .int))
  (.cons (.ret (.bin .sub (.bi .int (.cons (.cmp .gt (.var 0) (.var 1)) .nil)) (.bi .int (.cons (.cmp .lt (.var 0) (.var 1)) .nil)))) .nil)
  .nil) <|
 .cons (.iff (.or (.isi (.var 0) .int) (.isi (.var 1) .int))
  (.cons (.ret (.ite (.isi (.var 0) .int) (.neg (.cst (.int 1))) (.cst (.int 1)))) .nil)
  .nil) <|
 .cons (.iff (.cmp .ne (.bi .len (.cons (.var 0) .nil)) (.bi .len (.cons (.var 1) .nil)))
  (.cons (.ret (.ite (.cmp .lt (.bi .len (.cons (.var 0) .nil)) (.bi .len (.cons (.var 1) .nil))) (.neg (.cst (.int 1))) (.cst (.int 1)))) .nil)
  .nil) <|
 .cons (.for (.nm 2) .rng (.cons (.bi .len (.cons (.var 0) .nil)) .nil)
  (.cons (.asg (.nm 3) (.cal i (.cons (.idx (.var 0) (.var 2)) (.cons (.idx (.var 1) (.var 2)) .nil)))) <|
  (.cons (.iff (.cmp .ne (.var 3) (.cst (.int 0)))
   (.cons (.ret (.var 3)) .nil)
   .nil) .nil))) <|
 .cons (.ret (.cst (.int 0))) .nil
theorem cmpVs_drop : ∀ (i : Nat) (l m : List Vl) (a b : Vl), l[i]? = some a → m[i]? = some b → cmpVs (l.drop i) (m.drop i) = if cmpV a b = 0 then cmpVs (l.drop (i + 1)) (m.drop (i + 1)) else cmpV a b
  | 0, a :: l, b :: m, _, _, h1, h2 => by cases h1; cases h2; simp [cmpVs]
  | i + 1, _ :: l, _ :: m, a, b, h1, h2 => by
    have := cmpVs_drop i l m a b (by simpa using h1) (by simpa using h2)
    simpa using this
  | _, [], _, _, _, h, _ => by simp at h
  | _, _, [], _, _, _, h => by simp at h
theorem at_vs {l : List Vl} {i : Nat} {a : Vl} (h : l[i]? = some a) : atI (l.map Vl.d) (i : Int) = some a.d := by
  have hi := (List.getElem?_eq_some_iff.mp h).1
  simp only [atI]
  rw [ixN_nat (by simpa using hi)]
  simp [h]
section
variable {Fs : List Fn} {G : List D} {w k i : Nat}
theorem lcmp_spec (hF : Fs[i]? = some ⟨2, 4, b_lcmp i⟩) (S : Sto) : ∀ (n : Nat) (a b : Vl), vok n a → wp (run Fs G w (k + n + 1) i [a.d, b.d] S) (fun d S' => S' = S ∧ d = .int (cmpV a b)) nE := by
  intro n
  induction n with
  | zero =>
    intro a b ha
    refine wp_run hF rfl ?_
    cases a with
    | tup l => exact ha.elim
    | int x =>
      cases b with
      | tup m => rw [d_int, d_tup]; simp [b_lcmp, enter, cmpV]
      | int y =>
        rw [d_int, d_int]
        simp [b_lcmp, enter, cmpV]
        split <;> split <;> omega
  | succ n ih =>
    intro a b ha
    refine wp_run hF rfl ?_
    cases a with
    | int x =>
      cases b with
      | tup m => rw [d_int, d_tup]; simp [b_lcmp, enter, cmpV]
      | int y =>
        rw [d_int, d_int]
        simp [b_lcmp, enter, cmpV]
        split <;> split <;> omega
    | tup l =>
      cases b with
      | int y => rw [d_int, d_tup]; simp [b_lcmp, enter, cmpV]
      | tup m =>
        obtain ⟨h64, hl⟩ := ha
        rw [d_tup, d_tup]
        simp [b_lcmp, enter]
        refine cas_bne (fun h => ?_) fun h => ?_
        · have hlm : l.length = m.length := by omega
          simp
          refine ⟨okR_of (by omega) (by omega), ?_⟩
          refine forL_items (fun j ρ S1 => S1 = S ∧ (∃ x2 x3, ρ = [some (.tup (l.map Vl.d)), some (.tup (m.map Vl.d)), x2, x3]) ∧ cmpVs l m = cmpVs (l.drop j) (m.drop j)) ?_ ?_ _ 0 _ _ (by omega) (by omega) ⟨rfl, ⟨_, _, rfl⟩, rfl⟩
          · rintro j ρ S1 d hd ⟨rfl, ⟨x2, x3, rfl⟩, hc⟩
            obtain ⟨hj, rfl⟩ := rng_get hd
            have hj1 : j < l.length := hj
            have hj2 : j < m.length := by omega
            have g1 : l[j]? = some l[j] := List.getElem?_eq_getElem hj1
            have g2 : m[j]? = some m[j] := List.getElem?_eq_getElem hj2
            refine ⟨_, rfl, ?_⟩
            simp [at_vs g1, at_vs g2]
            refine wp_use (ih l[j] m[j] (hl _ (List.getElem_mem hj1))) ?_
            rintro d S2 ⟨rfl, rfl⟩
            have st := cmpVs_drop j l m _ _ g1 g2
            simp
            refine cas_bne (fun h => ?_) fun h => ?_
            · simp
              rw [hc, st, if_pos h]
            · simp
              rw [cmpV, if_neg (by omega), if_neg (by omega), hc, st, if_neg h]
          · rintro ρ S1 ⟨rfl, ⟨x2, x3, rfl⟩, hc⟩
            rw [rng_len] at hc
            simp
            rw [cmpV, if_neg (by omega), if_neg (by omega), hc]
            rw [List.drop_length]
            simp [cmpVs]
        · simp
          refine cas_dec (fun h2 => ?_) fun h2 => ?_
          · simp
            rw [cmpV, if_pos (by omega)]
          · simp
            rw [cmpV, if_neg (by omega), if_pos (by omega)]
def b_lsum (i : Nat) : Sms :=
 (.cons (.iff (.isi (.var 0) .int)
  (.cons (.ret (.var 0)) .nil)
  .nil) <|
 (.cons (.ret (.bi .sum (.cons (.lc (.cal i (.cons (.var 1) .nil)) [1] (.nm 1) .val (.cons (.var 0) .nil) .nil) .nil))) .nil))
theorem intL_sums (l : List Vl) : intL (l.map fun v => D.int v.sum) = some (l.map Vl.sum) := by
  induction l with
  | nil => rfl
  | cons v l ih => rw [List.map_cons, List.map_cons, intL, ih]; rfl
theorem sums_list : ∀ l : List Vl, (l.map Vl.sum).sum = Vl.sums l
  | [] => rfl
  | v :: l => by rw [List.map_cons, List.sum_cons, Vl.sums, sums_list l]
theorem lsum_spec (hF : Fs[i]? = some ⟨1, 2, b_lsum i⟩) : ∀ (n : Nat) (a : Vl) (S : Sto), vok n a → wp (run Fs G w (k + n + 1) i [a.d] S) (fun d S' => Ext S S' ∧ d = .int a.sum) nE := by
  intro n
  induction n with
  | zero =>
    intro a S ha
    refine wp_run hF rfl ?_
    cases a with
    | tup l => exact ha.elim
    | int x => rw [d_int]; simp [b_lsum, enter, Vl.sum]; exact Ext.refl _
  | succ n ih =>
    intro a S ha
    refine wp_run hF rfl ?_
    cases a with
    | int x => rw [d_int]; simp [b_lsum, enter, Vl.sum]; exact Ext.refl _
    | tup l =>
      obtain ⟨h64, hl⟩ := ha
      rw [d_tup]
      simp [b_lsum, enter, wipeD]
      refine lc_ix (L := l.map Vl.d) (l.map fun v => D.int v.sum) S (by simp) (by simp [LIM]; omega) (fun i S1 _ _ => nx_items) ?_ ?_ (by simp)
      · intro j d e S1 hd he hx
        rw [List.getElem?_map] at hd he
        cases q : l[j]? with
        | none => rw [q] at hd; cases hd
        | some v =>
          rw [q] at hd he
          cases hd
          cases he
          refine ⟨_, rfl, ?_⟩
          simp
          exact ih v S1 (hl v (List.mem_of_getElem? q))
      · intro S' hx hk
        simp [-List.map_map, lst_lst hk, intL_sums]
        refine ⟨hx, ?_⟩
        rw [Vl.sum, sums_list]
end
end Mx
set_option Elab.async false
set_option linter.all false
set_option maxRecDepth 100000
/-! texts that are compared -/
namespace Mx
open PySem L2
@[simp] theorem ok_equals : PyData.strOk (Str.ofString "equals") = true := by decide +kernel
@[simp] theorem ok_less : PyData.strOk (Str.ofString "less") = true := by decide +kernel
@[simp] theorem ok_even : PyData.strOk (Str.ofString "even") = true := by decide +kernel
@[simp] theorem ok_size : PyData.strOk (Str.ofString "size") = true := by decide +kernel
@[simp] theorem ok_rising : PyData.strOk (Str.ofString "rising") = true := by decide +kernel
@[simp] theorem ok_not : PyData.strOk (Str.ofString "not") = true := by decide +kernel
@[simp] theorem ok_both : PyData.strOk (Str.ofString "both") = true := by decide +kernel
@[simp] theorem ok_either : PyData.strOk (Str.ofString "either") = true := by decide +kernel
@[simp] theorem ok_all : PyData.strOk (Str.ofString "all") = true := by decide +kernel
@[simp] theorem ok_any : PyData.strOk (Str.ofString "any") = true := by decide +kernel
@[simp] theorem ok_odd : PyData.strOk (Str.ofString "odd") = true := by decide +kernel
@[simp] theorem ne_equals_less : (Str.ofString "equals" == Str.ofString "less") = false := by decide +kernel
@[simp] theorem ne_equals_even : (Str.ofString "equals" == Str.ofString "even") = false := by decide +kernel
@[simp] theorem ne_equals_size : (Str.ofString "equals" == Str.ofString "size") = false := by decide +kernel
@[simp] theorem ne_equals_rising : (Str.ofString "equals" == Str.ofString "rising") = false := by decide +kernel
@[simp] theorem ne_equals_not : (Str.ofString "equals" == Str.ofString "not") = false := by decide +kernel
@[simp] theorem ne_equals_both : (Str.ofString "equals" == Str.ofString "both") = false := by decide +kernel
@[simp] theorem ne_equals_either : (Str.ofString "equals" == Str.ofString "either") = false := by decide +kernel
@[simp] theorem ne_equals_all : (Str.ofString "equals" == Str.ofString "all") = false := by decide +kernel
@[simp] theorem ne_equals_any : (Str.ofString "equals" == Str.ofString "any") = false := by decide +kernel
@[simp] theorem ne_equals_odd : (Str.ofString "equals" == Str.ofString "odd") = false := by decide +kernel
@[simp] theorem ne_less_equals : (Str.ofString "less" == Str.ofString "equals") = false := by decide +kernel
@[simp] theorem ne_less_even : (Str.ofString "less" == Str.ofString "even") = false := by decide +kernel
@[simp] theorem ne_less_size : (Str.ofString "less" == Str.ofString "size") = false := by decide +kernel
@[simp] theorem ne_less_rising : (Str.ofString "less" == Str.ofString "rising") = false := by decide +kernel
@[simp] theorem ne_less_not : (Str.ofString "less" == Str.ofString "not") = false := by decide +kernel
@[simp] theorem ne_less_both : (Str.ofString "less" == Str.ofString "both") = false := by decide +kernel
@[simp] theorem ne_less_either : (Str.ofString "less" == Str.ofString "either") = false := by decide +kernel
@[simp] theorem ne_less_all : (Str.ofString "less" == Str.ofString "all") = false := by decide +kernel
@[simp] theorem ne_less_any : (Str.ofString "less" == Str.ofString "any") = false := by decide +kernel
@[simp] theorem ne_less_odd : (Str.ofString "less" == Str.ofString "odd") = false := by decide +kernel
@[simp] theorem ne_even_equals : (Str.ofString "even" == Str.ofString "equals") = false := by decide +kernel
@[simp] theorem ne_even_less : (Str.ofString "even" == Str.ofString "less") = false := by decide +kernel
@[simp] theorem ne_even_size : (Str.ofString "even" == Str.ofString "size") = false := by decide +kernel
@[simp] theorem ne_even_rising : (Str.ofString "even" == Str.ofString "rising") = false := by decide +kernel
@[simp] theorem ne_even_not : (Str.ofString "even" == Str.ofString "not") = false := by decide +kernel
@[simp] theorem ne_even_both : (Str.ofString "even" == Str.ofString "both") = false := by decide +kernel
@[simp] theorem ne_even_either : (Str.ofString "even" == Str.ofString "either") = false := by decide +kernel
@[simp] theorem ne_even_all : (Str.ofString "even" == Str.ofString "all") = false := by decide +kernel
@[simp] theorem ne_even_any : (Str.ofString "even" == Str.ofString "any") = false := by decide +kernel
@[simp] theorem ne_even_odd : (Str.ofString "even" == Str.ofString "odd") = false := by decide +kernel
@[simp] theorem ne_size_equals : (Str.ofString "size" == Str.ofString "equals") = false := by decide +kernel
@[simp] theorem ne_size_less : (Str.ofString "size" == Str.ofString "less") = false := by decide +kernel
@[simp] theorem ne_size_even : (Str.ofString "size" == Str.ofString "even") = false := by decide +kernel
@[simp] theorem ne_size_rising : (Str.ofString "size" == Str.ofString "rising") = false := by decide +kernel
@[simp] theorem ne_size_not : (Str.ofString "size" == Str.ofString "not") = false := by decide +kernel
@[simp] theorem ne_size_both : (Str.ofString "size" == Str.ofString "both") = false := by decide +kernel
@[simp] theorem ne_size_either : (Str.ofString "size" == Str.ofString "either") = false := by decide +kernel
@[simp] theorem ne_size_all : (Str.ofString "size" == Str.ofString "all") = false := by decide +kernel
@[simp] theorem ne_size_any : (Str.ofString "size" == Str.ofString "any") = false := by decide +kernel
@[simp] theorem ne_size_odd : (Str.ofString "size" == Str.ofString "odd") = false := by decide +kernel
@[simp] theorem ne_rising_equals : (Str.ofString "rising" == Str.ofString "equals") = false := by decide +kernel
@[simp] theorem ne_rising_less : (Str.ofString "rising" == Str.ofString "less") = false := by decide +kernel
@[simp] theorem ne_rising_even : (Str.ofString "rising" == Str.ofString "even") = false := by decide +kernel
@[simp] theorem ne_rising_size : (Str.ofString "rising" == Str.ofString "size") = false := by decide +kernel
@[simp] theorem ne_rising_not : (Str.ofString "rising" == Str.ofString "not") = false := by decide +kernel
@[simp] theorem ne_rising_both : (Str.ofString "rising" == Str.ofString "both") = false := by decide +kernel
@[simp] theorem ne_rising_either : (Str.ofString "rising" == Str.ofString "either") = false := by decide +kernel
@[simp] theorem ne_rising_all : (Str.ofString "rising" == Str.ofString "all") = false := by decide +kernel
@[simp] theorem ne_rising_any : (Str.ofString "rising" == Str.ofString "any") = false := by decide +kernel
@[simp] theorem ne_rising_odd : (Str.ofString "rising" == Str.ofString "odd") = false := by decide +kernel
@[simp] theorem ne_not_equals : (Str.ofString "not" == Str.ofString "equals") = false := by decide +kernel
@[simp] theorem ne_not_less : (Str.ofString "not" == Str.ofString "less") = false := by decide +kernel
@[simp] theorem ne_not_even : (Str.ofString "not" == Str.ofString "even") = false := by decide +kernel
@[simp] theorem ne_not_size : (Str.ofString "not" == Str.ofString "size") = false := by decide +kernel
@[simp] theorem ne_not_rising : (Str.ofString "not" == Str.ofString "rising") = false := by decide +kernel
@[simp] theorem ne_not_both : (Str.ofString "not" == Str.ofString "both") = false := by decide +kernel
@[simp] theorem ne_not_either : (Str.ofString "not" == Str.ofString "either") = false := by decide +kernel
@[simp] theorem ne_not_all : (Str.ofString "not" == Str.ofString "all") = false := by decide +kernel
@[simp] theorem ne_not_any : (Str.ofString "not" == Str.ofString "any") = false := by decide +kernel
@[simp] theorem ne_not_odd : (Str.ofString "not" == Str.ofString "odd") = false := by decide +kernel
@[simp] theorem ne_both_equals : (Str.ofString "both" == Str.ofString "equals") = false := by decide +kernel
@[simp] theorem ne_both_less : (Str.ofString "both" == Str.ofString "less") = false := by decide +kernel
@[simp] theorem ne_both_even : (Str.ofString "both" == Str.ofString "even") = false := by decide +kernel
@[simp] theorem ne_both_size : (Str.ofString "both" == Str.ofString "size") = false := by decide +kernel
@[simp] theorem ne_both_rising : (Str.ofString "both" == Str.ofString "rising") = false := by decide +kernel
@[simp] theorem ne_both_not : (Str.ofString "both" == Str.ofString "not") = false := by decide +kernel
@[simp] theorem ne_both_either : (Str.ofString "both" == Str.ofString "either") = false := by decide +kernel
@[simp] theorem ne_both_all : (Str.ofString "both" == Str.ofString "all") = false := by decide +kernel
@[simp] theorem ne_both_any : (Str.ofString "both" == Str.ofString "any") = false := by decide +kernel
@[simp] theorem ne_both_odd : (Str.ofString "both" == Str.ofString "odd") = false := by decide +kernel
@[simp] theorem ne_either_equals : (Str.ofString "either" == Str.ofString "equals") = false := by decide +kernel
@[simp] theorem ne_either_less : (Str.ofString "either" == Str.ofString "less") = false := by decide +kernel
@[simp] theorem ne_either_even : (Str.ofString "either" == Str.ofString "even") = false := by decide +kernel
@[simp] theorem ne_either_size : (Str.ofString "either" == Str.ofString "size") = false := by decide +kernel
@[simp] theorem ne_either_rising : (Str.ofString "either" == Str.ofString "rising") = false := by decide +kernel
@[simp] theorem ne_either_not : (Str.ofString "either" == Str.ofString "not") = false := by decide +kernel
@[simp] theorem ne_either_both : (Str.ofString "either" == Str.ofString "both") = false := by decide +kernel
@[simp] theorem ne_either_all : (Str.ofString "either" == Str.ofString "all") = false := by decide +kernel
@[simp] theorem ne_either_any : (Str.ofString "either" == Str.ofString "any") = false := by decide +kernel
@[simp] theorem ne_either_odd : (Str.ofString "either" == Str.ofString "odd") = false := by decide +kernel
@[simp] theorem ne_all_equals : (Str.ofString "all" == Str.ofString "equals") = false := by decide +kernel
@[simp] theorem ne_all_less : (Str.ofString "all" == Str.ofString "less") = false := by decide +kernel
@[simp] theorem ne_all_even : (Str.ofString "all" == Str.ofString "even") = false := by decide +kernel
@[simp] theorem ne_all_size : (Str.ofString "all" == Str.ofString "size") = false := by decide +kernel
@[simp] theorem ne_all_rising : (Str.ofString "all" == Str.ofString "rising") = false := by decide +kernel
@[simp] theorem ne_all_not : (Str.ofString "all" == Str.ofString "not") = false := by decide +kernel
@[simp] theorem ne_all_both : (Str.ofString "all" == Str.ofString "both") = false := by decide +kernel
@[simp] theorem ne_all_either : (Str.ofString "all" == Str.ofString "either") = false := by decide +kernel
@[simp] theorem ne_all_any : (Str.ofString "all" == Str.ofString "any") = false := by decide +kernel
@[simp] theorem ne_all_odd : (Str.ofString "all" == Str.ofString "odd") = false := by decide +kernel
@[simp] theorem ne_any_equals : (Str.ofString "any" == Str.ofString "equals") = false := by decide +kernel
@[simp] theorem ne_any_less : (Str.ofString "any" == Str.ofString "less") = false := by decide +kernel
@[simp] theorem ne_any_even : (Str.ofString "any" == Str.ofString "even") = false := by decide +kernel
@[simp] theorem ne_any_size : (Str.ofString "any" == Str.ofString "size") = false := by decide +kernel
@[simp] theorem ne_any_rising : (Str.ofString "any" == Str.ofString "rising") = false := by decide +kernel
@[simp] theorem ne_any_not : (Str.ofString "any" == Str.ofString "not") = false := by decide +kernel
@[simp] theorem ne_any_both : (Str.ofString "any" == Str.ofString "both") = false := by decide +kernel
@[simp] theorem ne_any_either : (Str.ofString "any" == Str.ofString "either") = false := by decide +kernel
@[simp] theorem ne_any_all : (Str.ofString "any" == Str.ofString "all") = false := by decide +kernel
@[simp] theorem ne_any_odd : (Str.ofString "any" == Str.ofString "odd") = false := by decide +kernel
@[simp] theorem ne_odd_equals : (Str.ofString "odd" == Str.ofString "equals") = false := by decide +kernel
@[simp] theorem ne_odd_less : (Str.ofString "odd" == Str.ofString "less") = false := by decide +kernel
@[simp] theorem ne_odd_even : (Str.ofString "odd" == Str.ofString "even") = false := by decide +kernel
@[simp] theorem ne_odd_size : (Str.ofString "odd" == Str.ofString "size") = false := by decide +kernel
@[simp] theorem ne_odd_rising : (Str.ofString "odd" == Str.ofString "rising") = false := by decide +kernel
@[simp] theorem ne_odd_not : (Str.ofString "odd" == Str.ofString "not") = false := by decide +kernel
@[simp] theorem ne_odd_both : (Str.ofString "odd" == Str.ofString "both") = false := by decide +kernel
@[simp] theorem ne_odd_either : (Str.ofString "odd" == Str.ofString "either") = false := by decide +kernel
@[simp] theorem ne_odd_all : (Str.ofString "odd" == Str.ofString "all") = false := by decide +kernel
@[simp] theorem ne_odd_any : (Str.ofString "odd" == Str.ofString "any") = false := by decide +kernel
end Mx
set_option Elab.async false
set_option linter.all false
set_option maxRecDepth 100000
set_option maxHeartbeats 8000000
namespace Mx
open PySem L2
theorem eqS {S : Sto} {a b : Str} (ha : PyData.strOk a = true) (hb : PyData.strOk b = true) : eqD S (.str a) (.str b) = some (a == b) := by
  unfold eqD
  simp only [pdN, pdW]
  have s1 : SeqAt.shaped (.str a) = true := by
    unfold SeqAt.shaped
    rw [PyData.canLay0, ha]
    rfl
  have s2 : SeqAt.shaped (.str b) = true := by
    unfold SeqAt.shaped
    rw [PyData.canLay0, hb]
    rfl
  simp only [s1, s2, Bool.and_self, if_true, PyData.eqv]
@[simp] theorem isin_nil {S : Sto} {a : D} : isin S a [] = some false := rfl
@[simp] theorem isin_str {S : Sto} {a b : Str} {l : List D} (ha : PyData.strOk a = true) (hb : PyData.strOk b = true) : isin S (.str a) (.str b :: l) = (isin S (.str a) l).map fun c => (b == a) || c := by
  rw [isin, eqS hb ha]
  cases isin S (.str a) l <;> rfl
@[simp] theorem c_in {S : Sto} {a b : D} : cm2 .isin a b S = (seqOf S b).bind fun l => isin S a l := rfl
@[simp] theorem dgt_1 {kvs : List (Str × D)} {k : Str} : dgt kvs [.str k] = some ((kvs.lookup k).getD .non) := rfl
@[simp] theorem dgt_2 {kvs : List (Str × D)} {k : Str} {y : D} : dgt kvs [.str k, y] = some ((kvs.lookup k).getD y) := rfl
theorem cut_1 (x : D) (l : List D) : cutD (x :: l) (some 1) none = l := by
  unfold cutD
  rw [HT.sIx_none, show HT.sIx (x :: l).length 0 (some (1 : Int)) = min 1 (x :: l).length from HT.sIx_nat _ _ 1]
  have e : min 1 (x :: l).length = 1 := by simp
  rw [e]
  simp
inductive Te where
  | eq (v : Vl) | less (i : Int) | even | size (i : Int) | rising
  | no (t : Te) | both (t u : Te) | either (t u : Te) | all (t : Te) | any (t : Te)
def Te.d : Te → D
  | .eq v => .tup [.str "equals", v.d]
  | .less i => .tup [.str "less", .int i]
  | .even => .tup [.str "even"]
  | .size i => .tup [.str "size", .int i]
  | .rising => .tup [.str "rising"]
  | .no t => .tup [.str "not", t.d]
  | .both t u => .tup [.str "both", t.d, u.d]
  | .either t u => .tup [.str "either", t.d, u.d]
  | .all t => .tup [.str "all", t.d]
  | .any t => .tup [.str "any", t.d]
/-- the depth of a test -/
def Te.dep : Te → Nat
  | .no t => t.dep + 1
  | .both t u => max t.dep u.dep + 1
  | .either t u => max t.dep u.dep + 1
  | .all t => t.dep + 1
  | .any t => t.dep + 1
  | _ => 1
/-- its values are values of depth n and not big -/
def Te.ok (n : Nat) : Te → Prop
  | .eq v => vok n v ∧ v.nd ≤ 50000
  | .no t => t.ok n
  | .both t u => t.ok n ∧ u.ok n
  | .either t u => t.ok n ∧ u.ok n
  | .all t => t.ok n
  | .any t => t.ok n
  | _ => True
def bad : List Vl → List Bool
  | a :: b :: l => decide (0 < cmpV a b) :: bad (b :: l)
  | _ => []
def risingV (l : List Vl) : Bool := !(bad l).any id
def hold : Te → Vl → Bool
  | .eq x, v => decide (cmpV v x = 0)
  | .less i, v => decide (v.sum < i)
  | .even, v => decide (v.sum % 2 = 0)
  | .size i, v => decide (sizeV v = i)
  | .rising, v => risingV (partsV v)
  | .no t, v => !hold t v
  | .both t u, v => hold t v && hold u v
  | .either t u, v => hold t v || hold u v
  | .all t, v => (partsV v).all (hold t)
  | .any t, v => (partsV v).any (hold t)
theorem bad_len : ∀ l : List Vl, (bad l).length = l.length - 1
  | [] => rfl
  | [_] => rfl
  | a :: b :: l => by rw [bad, List.length_cons, bad_len (b :: l)]; simp
theorem bad_get : ∀ (l : List Vl) (i : Nat) (a b : Vl), l[i]? = some a → l[i + 1]? = some b → (bad l)[i]? = some (decide (0 < cmpV a b))
  | x :: y :: l, 0, a, b, h1, h2 => by cases h1; cases h2; rfl
  | x :: y :: l, i + 1, a, b, h1, h2 => by
    rw [bad, List.getElem?_cons_succ]
    exact bad_get (y :: l) i a b (by simpa using h1) (by simpa using h2)
  | [], _, _, _, h, _ => by simp at h
  | [_], _, _, _, _, h => by simp at h
theorem zip_tail (l : List Vl) (i : Nat) (d : D) (h : (zipD (l.map Vl.d) (l.tail.map Vl.d))[i]? = some d) : ∃ a b, l[i]? = some a ∧ l[i + 1]? = some b ∧ d = .tup [a.d, b.d] := by
  unfold zipD at h
  rw [List.getElem?_zipWith, List.getElem?_map, List.getElem?_map] at h
  cases q1 : l[i]? with
  | none => rw [q1] at h; simp at h
  | some a =>
    cases q2 : l.tail[i]? with
    | none => rw [q1, q2] at h; simp at h
    | some b =>
      rw [q1, q2] at h
      cases h
      refine ⟨a, b, rfl, ?_, rfl⟩
      rw [← List.getElem?_tail]
      exact q2
theorem parts_nd {v u : Vl} (h : u ∈ partsV v) : u.nd ≤ v.nd := by
  cases v with
  | int i => simp [partsV] at h; subst h; exact Nat.le_refl _
  | tup l => have := nd_mem (l := l) h; rw [Vl.nd]; omega
theorem parts_len (v : Vl) : (partsV v).length ≤ v.nd := by
  cases v with
  | int i => simp [partsV, Vl.nd]
  | tup l => have := len_nds l; rw [Vl.nd, partsV]; omega
theorem parts_ok {n : Nat} {v u : Vl} (hv : vok n v) (h : u ∈ partsV v) : vok n u := by
  have mono : ∀ (n : Nat) (v : Vl), vok n v → vok (n + 1) v := by
    intro n
    induction n with
    | zero => intro v hv; cases v with
      | int i => trivial
      | tup l => exact hv.elim
    | succ n ih => intro v hv; cases v with
      | int i => trivial
      | tup l => exact ⟨hv.1, fun u hu => ih u (hv.2 u hu)⟩
  cases v with
  | int i => simp [partsV] at h; subst h; exact hv
  | tup l => cases n with
    | zero => exact hv.elim
    | succ n => exact mono n u (hv.2 u h)
/-! ### _is_rising -/
def b_rise (iP iC : Nat) : Sms :=
 (.cons (.asg (.nm 1) (.cal iP (.cons (.var 0) .nil))) <|
 (.cons (.for (.ns [2, 3]) .zip (.cons (.var 1) (.cons (.slc (.var 1) (.cons (.cst (.int 1)) .nil) .nil) .nil))
  (.cons (.iff (.cmp .gt (.cal iC (.cons (.var 2) (.cons (.var 3) .nil))) (.cst (.int 0)))
   (.cons (.ret (.cst (.bl false))) .nil)
   .nil) .nil)) <|
 (.cons (.ret (.cst (.bl true))) .nil)))
section
variable {Fs : List Fn} {G : List D} {w k i iP iC iR iS iZ iU iH : Nat}
theorem any_take {l : List Bool} {j : Nat} {b : Bool} (h : l[j]? = some b) : (l.take (j + 1)).any id = ((l.take j).any id || b) := by
  rw [List.take_add_one, h, List.any_append]
  simp
theorem rise_spec (hF : Fs[i]? = some ⟨1, 4, b_rise iP iC⟩) (hP : Fs[iP]? = some ⟨1, 1, b_partsv⟩) (hC : Fs[iC]? = some ⟨2, 5, b_cmp iR⟩) (hR : Fs[iR]? = some ⟨1, 1, b_rank⟩) {v : Vl} (hv : v.nd ≤ 50000) (hw : 400000 ≤ w) (S : Sto) :
    wp (run Fs G w (k + 3) i [v.d] S) (fun d S' => Ext S S' ∧ d = .bl (risingV (partsV v))) nE := by
  refine wp_run hF rfl ?_
  simp [b_rise, enter]
  refine wp_use (partsv_spec hP v S) ?_
  rintro d S1 ⟨rfl, rfl⟩
  have g1 : lstOf (S ++ [Ob.lst ((partsV v).map Vl.d)]) S.length = some ((partsV v).map Vl.d) := lst_app2
  simp [g1]
  have hx : Ext S (S ++ [Ob.lst ((partsV v).map Vl.d), Ob.lst (cutD ((partsV v).map Vl.d) (some 1) none)]) := Ext.app _ _
  have e1 : (S ++ [Ob.lst ((partsV v).map Vl.d), Ob.lst (cutD ((partsV v).map Vl.d) (some 1) none)])[S.length]? = some (.lst ((partsV v).map Vl.d)) := by simp
  have ct : cutD ((partsV v).map Vl.d) (some 1) none = (partsV v).tail.map Vl.d := by
    cases partsV v with
    | nil => rfl
    | cons a l => exact cut_1 _ _
  have e2 : (S ++ [Ob.lst ((partsV v).map Vl.d), Ob.lst (cutD ((partsV v).map Vl.d) (some 1) none)])[S.length + 1]? = some (.lst ((partsV v).tail.map Vl.d)) := by rw [List.getElem?_append_right (by omega)]; simp [ct]
  generalize S ++ [Ob.lst ((partsV v).map Vl.d), Ob.lst (cutD ((partsV v).map Vl.d) (some 1) none)] = S2 at hx e1 e2 ⊢
  have z1 := lst_lst e1
  have z2 := lst_lst e2
  simp [z1, z2]
  have zl : (zipD ((partsV v).map Vl.d) ((partsV v).tail.map Vl.d)).length = (partsV v).length - 1 := by simp [zipD]
  refine forL_nx (L := zipD ((partsV v).map Vl.d) ((partsV v).tail.map Vl.d)) (fun j ρ S3 => Ext S2 S3 ∧ j ≤ (partsV v).length - 1 ∧ (∃ x1 x2, ρ = [some v.d, some (.ref S.length), x1, x2]) ∧ ((bad (partsV v)).take j).any id = false) ?_ ?_ ?_ _ 0 _ _ ?_ (by omega) ⟨Ext.refl _, by omega, ⟨_, _, rfl⟩, by simp⟩
  · rintro j ρ S3 ⟨hx3, hj, _, _⟩
    exact nx_zip (by simp only [seq_ref]; exact lst_lst (hx3.at e1)) (by simp only [seq_ref]; exact lst_lst (hx3.at e2)) (by simp; omega)
  · rintro j ρ S3 d hd ⟨hx3, hj, ⟨x1, x2, rfl⟩, hb⟩
    obtain ⟨a, b, ha, hb2, rfl⟩ := zip_tail _ _ _ hd
    refine ⟨_, rfl, ?_⟩
    have na := parts_nd (List.mem_of_getElem? ha)
    have nb := parts_nd (List.mem_of_getElem? hb2)
    have bg := bad_get _ _ _ _ ha hb2
    have lt : j + 1 < (partsV v).length := (List.getElem?_eq_some_iff.mp hb2).1
    simp
    refine wp_use (compare_spec hC hR (a := a) (b := b) (by omega) hw S3) ?_
    rintro d S4 ⟨hx4, rfl⟩
    simp
    refine cas_dec (fun h => ?_) fun h => ?_
    · simp
      refine ⟨hx.trans (hx3.trans hx4), ?_⟩
      unfold risingV
      have : (bad (partsV v)).any id = true := List.any_eq_true.mpr ⟨true, List.mem_of_getElem? (by rw [bg, decide_eq_true h]), rfl⟩
      rw [this]
      rfl
    · simp
      refine ⟨hx3.trans hx4, by omega, ?_⟩
      have := any_take bg
      rw [hb, decide_eq_false h] at this
      simpa using this
  · rintro ρ S3 ⟨hx3, hj, ⟨x1, x2, rfl⟩, hb⟩
    simp
    refine ⟨hx.trans hx3, ?_⟩
    unfold risingV
    rw [zl, ← bad_len, List.take_length] at hb
    rw [hb]
    rfl
  · rw [zl]
    simp [lenI, z1, z2]
end
end Mx
set_option Elab.async false
set_option linter.all false
set_option maxRecDepth 100000
set_option maxHeartbeats 8000000
namespace Mx
open PySem L2
def g_holds_10 (iC iS iZ iU iH iP : Nat) : Sms := .cons (.ret (.ite (.cmp .eq (.var 2) (.cst (.str "all"))) (.bi .all (.cons (.var 3) .nil)) (.bi .any (.cons (.var 3) .nil)))) .nil
def g_holds_9 (iC iS iZ iU iH iP : Nat) : Sms := .cons (.asg (.nm 3) (.lc (.cal iH (.cons (.idx (.var 0) (.cst (.int 1))) (.cons (.var 4) .nil))) [4] (.nm 4) .val (.cons (.cal iP (.cons (.var 1) .nil)) .nil) .nil)) (g_holds_10 iC iS iZ iU iH iP)
def g_holds_8 (iC iS iZ iU iH iP : Nat) : Sms := .cons (.iff (.cmp .eq (.var 2) (.cst (.str "either")))
  (.cons (.ret (.or (.cal iH (.cons (.idx (.var 0) (.cst (.int 1))) (.cons (.var 1) .nil))) (.cal iH (.cons (.idx (.var 0) (.cst (.int 2))) (.cons (.var 1) .nil))))) .nil)
  .nil) (g_holds_9 iC iS iZ iU iH iP)
def g_holds_7 (iC iS iZ iU iH iP : Nat) : Sms := .cons (.iff (.cmp .eq (.var 2) (.cst (.str "both")))
  (.cons (.ret (.an (.cal iH (.cons (.idx (.var 0) (.cst (.int 1))) (.cons (.var 1) .nil))) (.cal iH (.cons (.idx (.var 0) (.cst (.int 2))) (.cons (.var 1) .nil))))) .nil)
  .nil) (g_holds_8 iC iS iZ iU iH iP)
def g_holds_6 (iC iS iZ iU iH iP : Nat) : Sms := .cons (.iff (.cmp .eq (.var 2) (.cst (.str "not")))
  (.cons (.ret (.nt (.cal iH (.cons (.idx (.var 0) (.cst (.int 1))) (.cons (.var 1) .nil))))) .nil)
  .nil) (g_holds_7 iC iS iZ iU iH iP)
def g_holds_5 (iC iS iZ iU iH iP : Nat) : Sms := .cons (.iff (.cmp .eq (.var 2) (.cst (.str "rising")))
  (.cons (.ret (.cal iU (.cons (.var 1) .nil))) .nil)
  .nil) (g_holds_6 iC iS iZ iU iH iP)
def g_holds_4 (iC iS iZ iU iH iP : Nat) : Sms := .cons (.iff (.cmp .eq (.var 2) (.cst (.str "size")))
  (.cons (.ret (.cmp .eq (.cal iZ (.cons (.var 1) .nil)) (.idx (.var 0) (.cst (.int 1))))) .nil)
  .nil) (g_holds_5 iC iS iZ iU iH iP)
def g_holds_3 (iC iS iZ iU iH iP : Nat) : Sms := .cons (.iff (.cmp .eq (.var 2) (.cst (.str "even")))
  (.cons (.ret (.cmp .eq (.bin .mod (.cal iS (.cons (.var 1) .nil)) (.cst (.int 2))) (.cst (.int 0)))) .nil)
  .nil) (g_holds_4 iC iS iZ iU iH iP)
def g_holds_2 (iC iS iZ iU iH iP : Nat) : Sms := .cons (.iff (.cmp .eq (.var 2) (.cst (.str "less")))
  (.cons (.ret (.cmp .lt (.cal iS (.cons (.var 1) .nil)) (.idx (.var 0) (.cst (.int 1))))) .nil)
  .nil) (g_holds_3 iC iS iZ iU iH iP)
def g_holds_1 (iC iS iZ iU iH iP : Nat) : Sms := .cons (.iff (.cmp .eq (.var 2) (.cst (.str "equals")))
  (.cons (.ret (.cmp .eq (.cal iC (.cons (.var 1) (.cons (.idx (.var 0) (.cst (.int 1))) .nil))) (.cst (.int 0)))) .nil)
  .nil) (g_holds_2 iC iS iZ iU iH iP)
def g_holds (iC iS iZ iU iH iP : Nat) : Sms := .cons (.asg (.nm 2) (.idx (.var 0) (.cst (.int 0)))) (g_holds_1 iC iS iZ iU iH iP)
theorem blL_map {α : Type} (f : α → Bool) (l : List α) : blL (l.map fun x => D.bl (f x)) = some (l.map f) := by
  induction l with
  | nil => rfl
  | cons x l ih => rw [List.map_cons, List.map_cons, blL, ih]; rfl
section
variable {Fs : List Fn} {G : List D} {w k iC iS iZ iU iH iP iR : Nat}
/-- the defs that holds rests on -/
structure HoldFs (Fs : List Fn) (iC iS iZ iU iH iP iR : Nat) : Prop where
  H : Fs[iH]? = some ⟨2, 5, g_holds iC iS iZ iU iH iP⟩
  C : Fs[iC]? = some ⟨2, 5, b_cmp iR⟩
  R : Fs[iR]? = some ⟨1, 1, b_rank⟩
  S : Fs[iS]? = some ⟨1, 4, b_sumof⟩
  Z : Fs[iZ]? = some ⟨1, 1, b_sizeof⟩
  U : Fs[iU]? = some ⟨1, 4, b_rise iP iC⟩
  P : Fs[iP]? = some ⟨1, 1, b_partsv⟩
theorem hold_all (t : Te) (v : Vl) : ((partsV v).map (hold t)).all id = hold (.all t) v := by rw [hold, List.all_map]; rfl
theorem hold_any (t : Te) (v : Vl) : ((partsV v).map (hold t)).any id = hold (.any t) v := by rw [hold, List.any_map]; rfl
theorem holds_spec (hF : HoldFs Fs iC iS iZ iU iH iP iR) (hw : 400000 ≤ w) {m : Nat} : ∀ (t : Te) (v : Vl) (S : Sto) (k : Nat), t.ok m → v.nd ≤ 50000 → wp (run Fs G w (k + 3 + t.dep) iH [t.d, v.d] S) (fun d S' => Ext S S' ∧ d = .bl (hold t v)) nE := by
  intro t
  induction t with
  | eq x =>
    intro v S k ht hv
    refine wp_run hF.H rfl ?_
    simp [g_holds, g_holds_1, enter, Te.d]
    refine wp_use (compare_spec hF.C hF.R (a := v) (b := x) (k := k + 1) (by have := ht.2; omega) hw S) ?_
    rintro d S1 ⟨hx, rfl⟩
    simp
    refine ⟨hx, ?_⟩
    rw [hold]
    by_cases h : cmpV v x = 0
    · rw [h]; rfl
    · rw [decide_eq_false h]
      exact beq_false_of_ne h
  | less i =>
    intro v S k ht hv
    refine wp_run hF.H rfl ?_
    simp [g_holds, g_holds_1, g_holds_2, enter, Te.d]
    refine wp_use (sumof_spec hF.S (v := v) (k := k + 2) (by omega) hw S) ?_
    rintro d S1 ⟨hx, rfl⟩
    simp
    exact ⟨hx, by rw [hold]⟩
  | even =>
    intro v S k ht hv
    refine wp_run hF.H rfl ?_
    simp [g_holds, g_holds_1, g_holds_2, g_holds_3, enter, Te.d]
    refine wp_use (sumof_spec hF.S (v := v) (k := k + 2) (by omega) hw S) ?_
    rintro d S1 ⟨hx, rfl⟩
    simp
    refine ⟨hx, ?_⟩
    rw [hold, Int.fmod_eq_emod_of_nonneg _ (by decide)]
    by_cases h : v.sum % 2 = 0
    · rw [h]; rfl
    · rw [decide_eq_false h]
      exact beq_false_of_ne h
  | size i =>
    intro v S k ht hv
    refine wp_run hF.H rfl ?_
    simp [g_holds, g_holds_1, g_holds_2, g_holds_3, g_holds_4, enter, Te.d]
    refine wp_use (sizeof_spec hF.Z v (k := k + 2) S) ?_
    rintro d S1 ⟨rfl, rfl⟩
    simp
    refine ⟨Ext.refl _, ?_⟩
    rw [hold]
    by_cases h : sizeV v = i
    · rw [decide_eq_true h, h]; simp
    · rw [decide_eq_false h]
      exact beq_false_of_ne h
  | rising =>
    intro v S k ht hv
    refine wp_run hF.H rfl ?_
    simp [g_holds, g_holds_1, g_holds_2, g_holds_3, g_holds_4, g_holds_5, enter, Te.d]
    refine wp_use (rise_spec hF.U hF.P hF.C hF.R (v := v) (k := k) hv hw S) ?_
    rintro d S1 ⟨hx, rfl⟩
    simp
    exact ⟨hx, by rw [hold]⟩
  | no t ih =>
    intro v S k ht hv
    refine wp_run hF.H rfl ?_
    simp [g_holds, g_holds_1, g_holds_2, g_holds_3, g_holds_4, g_holds_5, g_holds_6, enter, Te.d]
    refine wp_use (ih v S k ht hv) ?_
    rintro d S1 ⟨hx, rfl⟩
    simp
    exact ⟨hx, by rw [hold]; simp⟩
  | both t u ih1 ih2 =>
    intro v S k ht hv
    have e1 : k + 3 + max t.dep u.dep = (k + (max t.dep u.dep - t.dep)) + 3 + t.dep := by omega
    have e2 : k + 3 + max t.dep u.dep = (k + (max t.dep u.dep - u.dep)) + 3 + u.dep := by omega
    have r1 := fun S => ih1 v S (k + (max t.dep u.dep - t.dep)) ht.1 hv
    have r2 := fun S => ih2 v S (k + (max t.dep u.dep - u.dep)) ht.2 hv
    rw [← e1] at r1
    rw [← e2] at r2
    refine wp_run (k := k + 3 + max t.dep u.dep) hF.H rfl ?_
    simp [g_holds, g_holds_1, g_holds_2, g_holds_3, g_holds_4, g_holds_5, g_holds_6, g_holds_7, enter, Te.d]
    refine wp_use (r1 S) ?_
    rintro d S1 ⟨hx, rfl⟩
    try simp
    refine cas_bl (fun h => ?_) fun h => ?_
    · refine wp_use (r2 S1) ?_
      rintro d S2 ⟨hx2, rfl⟩
      simp
      exact ⟨hx.trans hx2, by rw [hold, h]; rfl⟩
    · exact ⟨hx, by rw [hold, h]; rfl⟩
  | either t u ih1 ih2 =>
    intro v S k ht hv
    have e1 : k + 3 + max t.dep u.dep = (k + (max t.dep u.dep - t.dep)) + 3 + t.dep := by omega
    have e2 : k + 3 + max t.dep u.dep = (k + (max t.dep u.dep - u.dep)) + 3 + u.dep := by omega
    have r1 := fun S => ih1 v S (k + (max t.dep u.dep - t.dep)) ht.1 hv
    have r2 := fun S => ih2 v S (k + (max t.dep u.dep - u.dep)) ht.2 hv
    rw [← e1] at r1
    rw [← e2] at r2
    refine wp_run (k := k + 3 + max t.dep u.dep) hF.H rfl ?_
    simp [g_holds, g_holds_1, g_holds_2, g_holds_3, g_holds_4, g_holds_5, g_holds_6, g_holds_7, g_holds_8, enter, Te.d]
    refine wp_use (r1 S) ?_
    rintro d S1 ⟨hx, rfl⟩
    try simp
    refine cas_bl (fun h => ?_) fun h => ?_
    · exact ⟨hx, by rw [hold, h]; rfl⟩
    · refine wp_use (r2 S1) ?_
      rintro d S2 ⟨hx2, rfl⟩
      simp
      exact ⟨hx.trans hx2, by rw [hold, h]; rfl⟩
  | all t ih =>
    intro v S k ht hv
    refine wp_run hF.H rfl ?_
    simp [g_holds, g_holds_1, g_holds_2, g_holds_3, g_holds_4, g_holds_5, g_holds_6, g_holds_7, g_holds_8, g_holds_9, enter, Te.d]
    have e9 : k + 3 + t.dep = (k + 2 + t.dep) + 1 := by omega
    have pv := partsv_spec (w := w) (G := G) (k := k + 2 + t.dep) hF.P v S
    rw [← e9] at pv
    refine wp_use pv ?_
    rintro d S1 ⟨rfl, rfl⟩
    have hx0 : Ext S (S ++ [Ob.lst ((partsV v).map Vl.d)]) := Ext.app _ _
    have e1 : (S ++ [Ob.lst ((partsV v).map Vl.d)])[S.length]? = some (.lst ((partsV v).map Vl.d)) := by simp
    generalize S ++ [Ob.lst ((partsV v).map Vl.d)] = S2 at hx0 e1 ⊢
    have z1 := lst_lst e1
    have pl := parts_len v
    simp [z1, wipeD]
    refine lc_ix (L := (partsV v).map Vl.d) ((partsV v).map fun u => D.bl (hold t u)) S2 (by simp) (by simp [LIM]; omega) (fun i S3 _ hx => nx_live e1 hx) ?_ ?_ (by simp [lenI, z1])
    · intro j d e S3 hd he hx
      rw [List.getElem?_map] at hd he
      cases q : (partsV v)[j]? with
      | none => rw [q] at hd; cases hd
      | some u =>
        rw [q] at hd he
        cases hd
        cases he
        refine ⟨_, rfl, ?_⟩
        simp
        exact ih u S3 k ht (Nat.le_trans (parts_nd (List.mem_of_getElem? q)) hv)
    · intro S3 hx hk
      simp [-List.map_map, g_holds_10, lst_lst hk, blL_map]
      refine ⟨hx0.trans hx, ?_⟩
      rw [← hold_all, List.all_map]
      simp
  | any t ih =>
    intro v S k ht hv
    refine wp_run hF.H rfl ?_
    simp [g_holds, g_holds_1, g_holds_2, g_holds_3, g_holds_4, g_holds_5, g_holds_6, g_holds_7, g_holds_8, g_holds_9, enter, Te.d]
    have e9 : k + 3 + t.dep = (k + 2 + t.dep) + 1 := by omega
    have pv := partsv_spec (w := w) (G := G) (k := k + 2 + t.dep) hF.P v S
    rw [← e9] at pv
    refine wp_use pv ?_
    rintro d S1 ⟨rfl, rfl⟩
    have hx0 : Ext S (S ++ [Ob.lst ((partsV v).map Vl.d)]) := Ext.app _ _
    have e1 : (S ++ [Ob.lst ((partsV v).map Vl.d)])[S.length]? = some (.lst ((partsV v).map Vl.d)) := by simp
    generalize S ++ [Ob.lst ((partsV v).map Vl.d)] = S2 at hx0 e1 ⊢
    have z1 := lst_lst e1
    have pl := parts_len v
    simp [z1, wipeD]
    refine lc_ix (L := (partsV v).map Vl.d) ((partsV v).map fun u => D.bl (hold t u)) S2 (by simp) (by simp [LIM]; omega) (fun i S3 _ hx => nx_live e1 hx) ?_ ?_ (by simp [lenI, z1])
    · intro j d e S3 hd he hx
      rw [List.getElem?_map] at hd he
      cases q : (partsV v)[j]? with
      | none => rw [q] at hd; cases hd
      | some u =>
        rw [q] at hd he
        cases hd
        cases he
        refine ⟨_, rfl, ?_⟩
        simp
        exact ih u S3 k ht (Nat.le_trans (parts_nd (List.mem_of_getElem? q)) hv)
    · intro S3 hx hk
      simp [-List.map_map, g_holds_10, lst_lst hk, blL_map]
      refine ⟨hx0.trans hx, ?_⟩
      rw [← hold_any, List.any_map]
      simp
end
end Mx
set_option Elab.async false
set_option linter.all false
set_option maxRecDepth 100000
set_option maxHeartbeats 8000000
namespace Mx
open PySem L2
def g__law_holds_12 (iC iS iH : Nat) : Sms := .cons (.ret (.cmp .gt (.bi .len (.cons (.var 4) .nil)) (.cst (.int 0)))) .nil
def g__law_holds_11 (iC iS iH : Nat) : Sms := .cons (.iff (.cmp .eq (.var 2) (.cst (.str "all")))
  (.cons (.ret (.cmp .eq (.bi .len (.cons (.var 4) .nil)) (.bi .len (.cons (.var 3) .nil)))) .nil)
  .nil) (g__law_holds_12 iC iS iH)
def g__law_holds_10 (iC iS iH : Nat) : Sms := .cons (.asg (.nm 4) (.lc (.var 6) [6] (.nm 6) .val (.cons (.var 3) .nil) (.cons (.cal iH (.cons (.idx (.var 0) (.cst (.int 1))) (.cons (.var 6) .nil))) .nil))) (g__law_holds_11 iC iS iH)
def g__law_holds_9 (iC iS iH : Nat) : Sms := .cons (.iff (.cmp .eq (.var 2) (.cst (.str "either")))
  (.cons (.ret (.or (.cal iH (.cons (.idx (.var 0) (.cst (.int 1))) (.cons (.var 1) .nil))) (.cal iH (.cons (.idx (.var 0) (.cst (.int 2))) (.cons (.var 1) .nil))))) .nil)
  .nil) (g__law_holds_10 iC iS iH)
def g__law_holds_8 (iC iS iH : Nat) : Sms := .cons (.iff (.cmp .eq (.var 2) (.cst (.str "both")))
  (.cons (.ret (.an (.cal iH (.cons (.idx (.var 0) (.cst (.int 1))) (.cons (.var 1) .nil))) (.cal iH (.cons (.idx (.var 0) (.cst (.int 2))) (.cons (.var 1) .nil))))) .nil)
  .nil) (g__law_holds_9 iC iS iH)
def g__law_holds_7 (iC iS iH : Nat) : Sms := .cons (.iff (.cmp .eq (.var 2) (.cst (.str "not")))
  (.cons (.ret (.nt (.cal iH (.cons (.idx (.var 0) (.cst (.int 1))) (.cons (.var 1) .nil))))) .nil)
  .nil) (g__law_holds_8 iC iS iH)
def g__law_holds_6 (iC iS iH : Nat) : Sms := .cons (.iff (.cmp .eq (.var 2) (.cst (.str "rising")))
  (.cons (.ret (.cmp .eq (.bi .len (.cons (.lc (.var 5) [5] (.nm 5) .rng (.cons (.cst (.int 1)) (.cons (.bi .len (.cons (.var 3) .nil)) .nil)) (.cons (.cmp .gt (.cal iC (.cons (.idx (.var 3) (.bin .sub (.var 5) (.cst (.int 1)))) (.cons (.idx (.var 3) (.var 5)) .nil))) (.cst (.int 0))) .nil)) .nil)) (.cst (.int 0)))) .nil)
  .nil) (g__law_holds_7 iC iS iH)
def g__law_holds_5 (iC iS iH : Nat) : Sms := .cons (.iff (.cmp .eq (.var 2) (.cst (.str "size")))
  (.cons (.ret (.cmp .eq (.ite (.isi (.var 1) .int) (.cst (.int 0)) (.bi .len (.cons (.var 1) .nil))) (.idx (.var 0) (.cst (.int 1))))) .nil)
  .nil) (g__law_holds_6 iC iS iH)
def g__law_holds_4 (iC iS iH : Nat) : Sms := .cons (.iff (.cmp .eq (.var 2) (.cst (.str "even")))
  (.cons (.ret (.cmp .eq (.bin .mod (.bi .int (.cons (.cal iS (.cons (.var 1) .nil)) .nil)) (.cst (.int 2))) (.cst (.int 0)))) .nil)
  .nil) (g__law_holds_5 iC iS iH)
def g__law_holds_3 (iC iS iH : Nat) : Sms := .cons (.iff (.cmp .eq (.var 2) (.cst (.str "less")))
  (.cons (.ret (.cmp .lt (.cal iS (.cons (.var 1) .nil)) (.idx (.var 0) (.cst (.int 1))))) .nil)
  .nil) (g__law_holds_4 iC iS iH)
def g__law_holds_2 (iC iS iH : Nat) : Sms := .cons (.iff (.cmp .eq (.var 2) (.cst (.str "equals")))
  (.cons (.ret (.cmp .eq (.idx (.var 0) (.cst (.int 1))) (.var 1))) .nil)
  .nil) (g__law_holds_3 iC iS iH)
def g__law_holds_1 (iC iS iH : Nat) : Sms := .cons (.asg (.nm 3) (.ite (.isi (.var 1) .int) (.lst (.cons (.var 1) .nil)) (.bi .list (.cons (.var 1) .nil)))) (g__law_holds_2 iC iS iH)
def g__law_holds (iC iS iH : Nat) : Sms := .cons (.asg (.nm 2) (.idx (.var 0) (.cst (.int 0)))) (g__law_holds_1 iC iS iH)
section
variable {Fs : List Fn} {G : List D} {w k iC iS iH : Nat}
structure LHoldFs (Fs : List Fn) (iC iS iH : Nat) : Prop where
  H : Fs[iH]? = some ⟨2, 7, g__law_holds iC iS iH⟩
  C : Fs[iC]? = some ⟨2, 4, b_lcmp iC⟩
  S : Fs[iS]? = some ⟨1, 2, b_lsum iS⟩
/-- the parts as the law lists them -/
theorem lparts {Q : D → Sto → Prop} {E : Exn → Sto → Prop} {R : Nat → List D → Sto → Mo D} {ρ : Rho} {v : Vl} {S : Sto} (h1 : ρ[1]? = some (some v.d)) (h : Q (.ref S.length) (S ++ [.lst ((partsV v).map Vl.d)])) :
    wp (ev R G (.ite (.isi (.var 1) .int) (.lst (.cons (.var 1) .nil)) (.bi .list (.cons (.var 1) .nil))) false ρ S) Q E := by
  cases v with
  | int i => rw [d_int] at h1; simp [h1, LIM]; simpa [partsV, d_int] using h
  | tup l => rw [d_tup] at h1; simp [h1]; simpa [partsV] using h
theorem cmp_sym0 (a b : Vl) : decide (cmpV a b = 0) = decide (cmpV b a = 0) := by
  by_cases h : a = b
  · subst h; rfl
  · rw [decide_eq_false fun q => h ((cmp_eq a b).mp q), decide_eq_false fun q => h ((cmp_eq b a).mp q).symm]
theorem any_cnt (l : List Bool) : ((cnt l : Int) == 0) = !l.any id := by
  have h := cnt_any l
  cases q : l.any id with
  | true =>
    have := h.mpr q
    exact beq_false_of_ne (by omega)
  | false =>
    have : ¬ 0 < cnt l := fun z => by rw [h.mp z] at q; cases q
    have e : cnt l = 0 := by omega
    rw [e]
    rfl
theorem runk {a b i : Nat} {ds : List D} {S : Sto} {Q : D → Sto → Prop} {E : Exn → Sto → Prop} (h : a = b) (q : wp (run Fs G w a i ds S) Q E) : wp (run Fs G w b i ds S) Q E := by subst h; exact q
theorem lholds_spec (hF : LHoldFs Fs iC iS iH) {n m : Nat} (hn : n ≤ 60) (hm : m ≤ n) : ∀ (t : Te) (v : Vl) (S : Sto) (k : Nat), t.ok m → vok n v → wp (run Fs G w (k + n + 2 + t.dep) iH [t.d, v.d] S) (fun d S' => Ext S S' ∧ d = .bl (hold t v)) nE := by
  have vmono : ∀ (i j : Nat) (v : Vl), vok i v → vok (i + j) v := by
    intro i j
    induction i with
    | zero => intro v hv; cases v with
      | int _ => cases j <;> trivial
      | tup _ => exact hv.elim
    | succ i ih => intro v hv; cases v with
      | int _ => rw [Nat.succ_add]; trivial
      | tup l => rw [Nat.succ_add]; exact ⟨hv.1, fun u hu => ih u (hv.2 u hu)⟩
  intro t
  induction t with
  | eq x =>
    intro v S k ht hv
    refine wp_run hF.H rfl ?_
    have hx : Ext S (S ++ [.lst ((partsV v).map Vl.d)]) := Ext.app _ _
    simp [g__law_holds, g__law_holds_1, enter, Te.d, -wp_ite]
    refine lparts rfl ?_
    simp [g__law_holds_2]
    have hx' : vok n x := by have := vmono m (n - m) x ht.1; rwa [Nat.add_sub_cancel' hm] at this
    have e : cm2 .eq x.d v.d (S ++ [.lst ((partsV v).map Vl.d)]) = some (decide (cmpV x v = 0)) := eqC_v hx' hv (by omega) _
    rw [e]
    simp
    exact ⟨hx, by rw [hold, cmp_sym0]⟩
  | less i =>
    intro v S k ht hv
    refine wp_run hF.H rfl ?_
    have hx : Ext S (S ++ [.lst ((partsV v).map Vl.d)]) := Ext.app _ _
    simp [g__law_holds, g__law_holds_1, enter, Te.d, -wp_ite]
    refine lparts rfl ?_
    simp [g__law_holds_2, g__law_holds_3]
    refine wp_use (runk (by omega) (lsum_spec hF.S n v (k := k + 1) _ hv)) ?_
    rintro d S1 ⟨hx1, rfl⟩
    simp
    exact ⟨hx.trans hx1, by rw [hold]⟩
  | even =>
    intro v S k ht hv
    refine wp_run hF.H rfl ?_
    have hx : Ext S (S ++ [.lst ((partsV v).map Vl.d)]) := Ext.app _ _
    simp [g__law_holds, g__law_holds_1, enter, Te.d, -wp_ite]
    refine lparts rfl ?_
    simp [g__law_holds_2, g__law_holds_3, g__law_holds_4]
    refine wp_use (runk (by omega) (lsum_spec hF.S n v (k := k + 1) _ hv)) ?_
    rintro d S1 ⟨hx1, rfl⟩
    simp
    refine ⟨hx.trans hx1, ?_⟩
    rw [hold, Int.fmod_eq_emod_of_nonneg _ (by decide)]
    by_cases h : v.sum % 2 = 0
    · rw [h]; rfl
    · rw [decide_eq_false h]
      exact beq_false_of_ne h
  | size i =>
    intro v S k ht hv
    refine wp_run hF.H rfl ?_
    have hx : Ext S (S ++ [.lst ((partsV v).map Vl.d)]) := Ext.app _ _
    simp [g__law_holds, g__law_holds_1, enter, Te.d, -wp_ite]
    refine lparts rfl ?_
    simp [g__law_holds_2, g__law_holds_3, g__law_holds_4, g__law_holds_5]
    cases v with
    | int x =>
      rw [d_int]
      simp
      refine ⟨hx, ?_⟩
      rw [hold, sizeV]
      by_cases h : 0 = i
      · rw [decide_eq_true h, ← h]; rfl
      · rw [decide_eq_false h]
        exact beq_false_of_ne h
    | tup l =>
      rw [d_tup]
      simp
      refine ⟨hx, ?_⟩
      rw [hold, sizeV]
      by_cases h : (l.length : Int) = i
      · rw [decide_eq_true h, ← h]; simp
      · rw [decide_eq_false h]
        exact beq_false_of_ne h
  | rising =>
    intro v S k ht hv
    refine wp_run hF.H rfl ?_
    have hx : Ext S (S ++ [.lst ((partsV v).map Vl.d)]) := Ext.app _ _
    simp [g__law_holds, g__law_holds_1, enter, Te.d, -wp_ite]
    refine lparts rfl ?_
    have e1 : (S ++ [Ob.lst ((partsV v).map Vl.d)])[S.length]? = some (.lst ((partsV v).map Vl.d)) := by simp
    generalize S ++ [Ob.lst ((partsV v).map Vl.d)] = S2 at hx e1 ⊢
    have z1 := lst_lst e1
    have pl : (partsV v).length ≤ 64 := by
      cases v with
      | int _ => simp [partsV]
      | tup l => cases n with
        | zero => exact hv.elim
        | succ n => exact hv.1
    simp [g__law_holds_2, g__law_holds_3, g__law_holds_4, g__law_holds_5, g__law_holds_6, z1, wipeD]
    refine ⟨⟨okR_of (by omega) (by omega), okR_of (by omega) (by omega)⟩, ?_⟩
    have rl : (rng 1 ((partsV v).length - 1)).length = (bad (partsV v)).length := by rw [rng_len, bad_len]
    refine lc_cnt (L := rng 1 ((partsV v).length - 1)) (bad (partsV v)) S2 rl.symm (by rw [rl, bad_len]; simp [LIM]; omega) (fun i S3 _ hx => nx_items) ?_ ?_ (Nat.le_refl _)
    · intro j d b S3 hd hb hx3
      obtain ⟨hj, rfl⟩ := rng_get hd
      have lt : j + 1 < (partsV v).length := by omega
      have g1 : (partsV v)[j]? = some (partsV v)[j] := List.getElem?_eq_getElem (by omega)
      have g2 : (partsV v)[j + 1]? = some (partsV v)[j + 1] := List.getElem?_eq_getElem lt
      have bg := bad_get _ _ _ _ g1 g2
      rw [hb] at bg
      cases bg
      have z3 := lst_lst (hx3.at e1)
      refine ⟨_, rfl, ?_, fun S4 _ => ?_⟩
      · have a1 : (1 : Int) + (j : Int) - 1 = (j : Int) := by omega
        have a2 : (1 : Int) + (j : Int) = ((j + 1 : Nat) : Int) := by omega
        simp only [evt, wp_cmp, wp_cal, evs_cons, evs_nil]
        simp [z3, a1, at_vs g1]
        rw [a2, at_vs g2]
        simp
        refine wp_use (runk (by omega) (lcmp_spec hF.C S3 n (partsV v)[j] (partsV v)[j + 1] (k := k + 1) (parts_ok hv (List.getElem_mem _)))) ?_
        rintro d S5 ⟨rfl, rfl⟩
        simp
        exact Ext.refl _
      · simp
        exact Ext.refl _
    · intro S3 acc hx3 hk ha
      simp [lst_lst hk, ha]
      refine ⟨hx.trans hx3, ?_⟩
      rw [any_cnt, hold]
      rfl
  | no t ih =>
    intro v S k ht hv
    refine wp_run hF.H rfl ?_
    have hx : Ext S (S ++ [.lst ((partsV v).map Vl.d)]) := Ext.app _ _
    simp [g__law_holds, g__law_holds_1, enter, Te.d, -wp_ite]
    refine lparts rfl ?_
    simp [g__law_holds_2, g__law_holds_3, g__law_holds_4, g__law_holds_5, g__law_holds_6, g__law_holds_7]
    refine wp_use (ih v _ k ht hv) ?_
    rintro d S1 ⟨hx1, rfl⟩
    simp
    exact ⟨hx.trans hx1, by rw [hold]; simp⟩
  | both t u ih1 ih2 =>
    intro v S k ht hv
    refine wp_run (k := k + n + 2 + max t.dep u.dep) hF.H rfl ?_
    have hx : Ext S (S ++ [.lst ((partsV v).map Vl.d)]) := Ext.app _ _
    simp [g__law_holds, g__law_holds_1, enter, Te.d, -wp_ite]
    refine lparts rfl ?_
    simp [g__law_holds_2, g__law_holds_3, g__law_holds_4, g__law_holds_5, g__law_holds_6, g__law_holds_7, g__law_holds_8]
    refine wp_use (runk (by omega) (ih1 v _ (k + (max t.dep u.dep - t.dep)) ht.1 hv)) ?_
    rintro d S1 ⟨hx1, rfl⟩
    try simp
    refine cas_bl (fun h => ?_) fun h => ?_
    · refine wp_use (runk (by omega) (ih2 v _ (k + (max t.dep u.dep - u.dep)) ht.2 hv)) ?_
      rintro d S2 ⟨hx2, rfl⟩
      simp
      exact ⟨(hx.trans hx1).trans hx2, by rw [hold, h]; rfl⟩
    · exact ⟨hx.trans hx1, by rw [hold, h]; rfl⟩
  | either t u ih1 ih2 =>
    intro v S k ht hv
    refine wp_run (k := k + n + 2 + max t.dep u.dep) hF.H rfl ?_
    have hx : Ext S (S ++ [.lst ((partsV v).map Vl.d)]) := Ext.app _ _
    simp [g__law_holds, g__law_holds_1, enter, Te.d, -wp_ite]
    refine lparts rfl ?_
    simp [g__law_holds_2, g__law_holds_3, g__law_holds_4, g__law_holds_5, g__law_holds_6, g__law_holds_7, g__law_holds_8, g__law_holds_9]
    refine wp_use (runk (by omega) (ih1 v _ (k + (max t.dep u.dep - t.dep)) ht.1 hv)) ?_
    rintro d S1 ⟨hx1, rfl⟩
    try simp
    refine cas_bl (fun h => ?_) fun h => ?_
    · exact ⟨hx.trans hx1, by rw [hold, h]; rfl⟩
    · refine wp_use (runk (by omega) (ih2 v _ (k + (max t.dep u.dep - u.dep)) ht.2 hv)) ?_
      rintro d S2 ⟨hx2, rfl⟩
      simp
      exact ⟨(hx.trans hx1).trans hx2, by rw [hold, h]; rfl⟩
  | all t ih =>
    intro v S k ht hv
    refine wp_run hF.H rfl ?_
    have hx : Ext S (S ++ [.lst ((partsV v).map Vl.d)]) := Ext.app _ _
    simp [g__law_holds, g__law_holds_1, enter, Te.d, -wp_ite]
    refine lparts rfl ?_
    have e1 : (S ++ [Ob.lst ((partsV v).map Vl.d)])[S.length]? = some (.lst ((partsV v).map Vl.d)) := by simp
    generalize S ++ [Ob.lst ((partsV v).map Vl.d)] = S2 at hx e1 ⊢
    have z1 := lst_lst e1
    have pl : (partsV v).length ≤ 64 := by
      cases v with
      | int _ => simp [partsV]
      | tup l => cases n with
        | zero => exact hv.elim
        | succ n => exact hv.1
    simp [g__law_holds_2, g__law_holds_3, g__law_holds_4, g__law_holds_5, g__law_holds_6, g__law_holds_7, g__law_holds_8, g__law_holds_9, g__law_holds_10, z1, wipeD]
    refine lc_cnt (L := (partsV v).map Vl.d) ((partsV v).map (hold t)) S2 (by simp) (by simp [LIM]; omega) (fun i S3 _ hx => nx_live e1 hx) ?_ ?_ (by simp [lenI, z1])
    · intro j d b S3 hd hb hx3
      rw [List.getElem?_map] at hd hb
      cases q : (partsV v)[j]? with
      | none => rw [q] at hd; cases hd
      | some u =>
        rw [q] at hd hb
        cases hd
        cases hb
        refine ⟨_, rfl, ?_, fun S4 _ => ?_⟩
        · simp only [evt, wp_cal, evs_cons, evs_nil]
          simp
          exact wp_mono (ih u S3 k ht (parts_ok hv (List.mem_of_getElem? q))) (fun y S4 h => by rw [h.2]; simp; exact h.1) fun _ _ z => z
        · simp
          exact Ext.refl _
    · intro S3 acc hx3 hk ha
      have z4 := lst_lst (hx3.at e1)
      simp [-List.map_map, g__law_holds_11, lst_lst hk, z4, ha]
      refine ⟨hx.trans hx3, ?_⟩
      rw [← hold_all]
      have h := cnt_all ((partsV v).map (hold t))
      rw [List.length_map] at h
      cases q : ((partsV v).map (hold t)).all id with
      | true => rw [h.mpr q]; simp
      | false =>
        refine beq_false_of_ne fun z => ?_
        have := h.mp (by omega)
        rw [q] at this
        cases this
  | any t ih =>
    intro v S k ht hv
    refine wp_run hF.H rfl ?_
    have hx : Ext S (S ++ [.lst ((partsV v).map Vl.d)]) := Ext.app _ _
    simp [g__law_holds, g__law_holds_1, enter, Te.d, -wp_ite]
    refine lparts rfl ?_
    have e1 : (S ++ [Ob.lst ((partsV v).map Vl.d)])[S.length]? = some (.lst ((partsV v).map Vl.d)) := by simp
    generalize S ++ [Ob.lst ((partsV v).map Vl.d)] = S2 at hx e1 ⊢
    have z1 := lst_lst e1
    have pl : (partsV v).length ≤ 64 := by
      cases v with
      | int _ => simp [partsV]
      | tup l => cases n with
        | zero => exact hv.elim
        | succ n => exact hv.1
    simp [g__law_holds_2, g__law_holds_3, g__law_holds_4, g__law_holds_5, g__law_holds_6, g__law_holds_7, g__law_holds_8, g__law_holds_9, g__law_holds_10, z1, wipeD]
    refine lc_cnt (L := (partsV v).map Vl.d) ((partsV v).map (hold t)) S2 (by simp) (by simp [LIM]; omega) (fun i S3 _ hx => nx_live e1 hx) ?_ ?_ (by simp [lenI, z1])
    · intro j d b S3 hd hb hx3
      rw [List.getElem?_map] at hd hb
      cases q : (partsV v)[j]? with
      | none => rw [q] at hd; cases hd
      | some u =>
        rw [q] at hd hb
        cases hd
        cases hb
        refine ⟨_, rfl, ?_, fun S4 _ => ?_⟩
        · simp only [evt, wp_cal, evs_cons, evs_nil]
          simp
          exact wp_mono (ih u S3 k ht (parts_ok hv (List.mem_of_getElem? q))) (fun y S4 h => by rw [h.2]; simp; exact h.1) fun _ _ z => z
        · simp
          exact Ext.refl _
    · intro S3 acc hx3 hk ha
      simp [-List.map_map, g__law_holds_11, g__law_holds_12, lst_lst hk, ha]
      refine ⟨hx.trans hx3, ?_⟩
      rw [← hold_any]
      have h := cnt_any ((partsV v).map (hold t))
      cases q : ((partsV v).map (hold t)).any id with
      | true => exact decide_eq_true (h.mpr q)
      | false =>
        refine decide_eq_false fun z => ?_
        rw [h.mp z] at q
        cases q
end
end Mx
set_option Elab.async false
set_option linter.all false
set_option maxRecDepth 100000
set_option maxHeartbeats 8000000
namespace Mx
open PySem L2
def g_fits_values_3 (iI iF gM : Nat) : Sms := .cons (.ret (.cst (.bl true))) .nil
def g_fits_values_2 (iI iF gM : Nat) : Sms := .cons (.for (.nm 2) .val (.cons (.var 0) .nil)
  (.cons (.iff (.nt (.cal iF (.cons (.var 2) (.cons (.bin .sub (.var 1) (.cst (.int 1))) .nil))))
   (.cons (.ret (.cst (.bl false))) .nil)
   .nil) .nil)) (g_fits_values_3 iI iF gM)
def g_fits_values_1 (iI iF gM : Nat) : Sms := .cons (.iff (.or (.nt (.isi (.var 0) .tuple)) (.or (.cmp .eq (.var 1) (.cst (.int 0))) (.cmp .gt (.bi .len (.cons (.var 0) .nil)) (.glb gM))))
  (.cons (.ret (.cst (.bl false))) .nil)
  .nil) (g_fits_values_2 iI iF gM)
def g_fits_values (iI iF gM : Nat) : Sms := .cons (.iff (.cal iI (.cons (.var 0) .nil))
  (.cons (.ret (.cst (.bl true))) .nil)
  .nil) (g_fits_values_1 iI iF gM)
def g_is_value (iF gL : Nat) : Sms :=
 (.cons (.ret (.cal iF (.cons (.var 0) (.cons (.glb gL) .nil)))) .nil)
def g_fits_checks_4 (iI iA iV iF : Nat) : Sms := .cons (.ret (.cst (.bl true))) .nil
def g_fits_checks_3 (iI iA iV iF : Nat) : Sms := .cons (.for (.nm 2) .val (.cons (.slc (.var 0) (.cons (.cst (.int 1)) .nil) .nil) .nil)
  (.cons (.iff (.nt (.cal iF (.cons (.var 2) (.cons (.bin .sub (.var 1) (.cst (.int 1))) .nil))))
   (.cons (.ret (.cst (.bl false))) .nil)
   .nil) .nil)) (g_fits_checks_4 iI iA iV iF)
def g_fits_checks_2 (iI iA iV iF : Nat) : Sms := .cons (.iff (.cmp .isin (.idx (.var 0) (.cst (.int 0))) (.tup (.cons (.cst (.str "less")) (.cons (.cst (.str "size")) .nil))))
  (.cons (.ret (.cal iI (.cons (.idx (.var 0) (.cst (.int 1))) .nil))) .nil)
  .nil) (g_fits_checks_3 iI iA iV iF)
def g_fits_checks_1 (iI iA iV iF : Nat) : Sms := .cons (.iff (.cmp .eq (.idx (.var 0) (.cst (.int 0))) (.cst (.str "equals")))
  (.cons (.ret (.cal iV (.cons (.idx (.var 0) (.cst (.int 1))) .nil))) .nil)
  .nil) (g_fits_checks_2 iI iA iV iF)
def g_fits_checks (iI iA iV iF : Nat) : Sms := .cons (.iff (.or (.cmp .eq (.var 1) (.cst (.int 0))) (.or (.nt (.cal iA (.cons (.var 0) .nil))) (.cmp .ne (.dg [("equals", (.int 2)), ("less", (.int 2)), ("even", (.int 1)), ("size", (.int 2)), ("rising", (.int 1)), ("not", (.int 2)), ("both", (.int 3)), ("either", (.int 3)), ("all", (.int 2)), ("any", (.int 2))] (.cons (.idx (.var 0) (.cst (.int 0))) .nil)) (.bi .len (.cons (.var 0) .nil)))))
  (.cons (.ret (.cst (.bl false))) .nil)
  .nil) (g_fits_checks_1 iI iA iV iF)
def g_is_test (iF gL : Nat) : Sms :=
 (.cons (.ret (.cal iF (.cons (.var 0) (.cons (.glb gL) .nil)))) .nil)
/-- is_value's walk, so many levels deep -/
def fitsD : Nat → D → Bool
  | _, .int _ => true
  | n + 1, .tup l => decide (l.length ≤ 64) && l.all (fitsD n)
  | _, _ => false
/-- known so deep -/
def knD (S : Sto) : Nat → D → Prop
  | 0, d => known S d
  | n + 1, d => known S d ∧ ∀ l, d = .tup l → ∀ x ∈ l, knD S n x
theorem knD.kn {S : Sto} {n : Nat} {d : D} (h : knD S n d) : known S d := by
  cases n
  · exact h
  · exact h.1
theorem knD_v (S : Sto) : ∀ (n : Nat) (v : Vl), knD S n v.d
  | 0, .int i => by rw [d_int]; trivial
  | 0, .tup l => by rw [d_tup]; trivial
  | n + 1, .int i => by rw [d_int]; exact ⟨trivial, fun l h => by cases h⟩
  | n + 1, .tup l => by
    rw [d_tup]
    refine ⟨trivial, fun m h x hx => ?_⟩
    cases h
    obtain ⟨v, _, rfl⟩ := List.mem_map.mp hx
    exact knD_v S n v
theorem fits_v : ∀ (n : Nat) (v : Vl), vok n v → fitsD n v.d = true
  | 0, .int i, _ => by rw [d_int]; rfl
  | n + 1, .int i, _ => by rw [d_int]; rfl
  | 0, .tup l, h => h.elim
  | n + 1, .tup l, h => by
    rw [d_tup, fitsD, List.length_map, decide_eq_true h.1, Bool.true_and, List.all_map]
    exact List.all_eq_true.mpr fun v hv => fits_v n v (h.2 v hv)
section
variable {Fs : List Fn} {G : List D} {w k iI iF iV gM gL : Nat}
theorem fitsv_spec (hF : Fs[iF]? = some ⟨2, 3, g_fits_values iI iF gM⟩) (hI : Fs[iI]? = some ⟨1, 1, b_isint⟩) (hG : G[gM]? = some (.int 64)) (S : Sto) : ∀ (n : Nat) (d : D) (k : Nat), knD S n d → wp (run Fs G w (k + n + 2) iF [d, .int n] S) (fun y S' => S' = S ∧ y = .bl (fitsD n d)) nE := by
  intro n
  induction n with
  | zero =>
    intro d k hd
    refine wp_run hF rfl ?_
    simp [g_fits_values, enter]
    refine wp_use (isint_spec hI hd (k := k)) ?_
    rintro y S1 ⟨rfl, rfl⟩
    cases d with
    | int i => simp [isI, fitsD]
    | tup l => simp [isI, fitsD, g_fits_values_1]
    | ref j =>
      obtain ⟨l, hl⟩ := (hd : ∃ l, lstOf S1 j = some l)
      have e : ∀ t, isTy S1 (.ref j) t = some (match t with | .list => true | _ => false) := fun t => by cases t <;> simp [isTy, hl]
      simp [isI, fitsD, g_fits_values_1, e]
    | _ => simp [isI, fitsD, g_fits_values_1]
  | succ n ih =>
    intro d k hd
    refine wp_run hF rfl ?_
    simp [g_fits_values, enter]
    refine wp_use (runk (by omega) (isint_spec hI hd.1 (k := k + n + 1))) ?_
    rintro y S1 ⟨rfl, rfl⟩
    have n0 : ((n : Int) + 1 == 0) = false := beq_false_of_ne (by omega)
    cases d with
    | int i => simp [isI, fitsD]
    | tup l =>
      simp [isI, g_fits_values_1, n0, hG]
      refine cas_dec (fun h => ?_) fun h => ?_
      · simp
        rw [fitsD, decide_eq_false (by omega)]
        rfl
      · simp [g_fits_values_2]
        refine forL_items (fun j ρ S2 => S2 = S1 ∧ (∃ x, ρ = [some (.tup l), some (.int ((n : Int) + 1)), x]) ∧ ∀ x ∈ l.take j, fitsD n x = true) ?_ ?_ _ 0 _ _ (by omega) (by omega) ⟨rfl, ⟨_, rfl⟩, by simp⟩
        · rintro j ρ S2 d hd2 ⟨rfl, ⟨x, rfl⟩, hj⟩
          refine ⟨_, rfl, ?_⟩
          simp
          refine wp_use (runk (by omega) (ih d k (hd.2 l rfl d (List.mem_of_getElem? hd2)))) ?_
          rintro y S3 ⟨rfl, rfl⟩
          simp
          refine cas_bl (fun h2 => ?_) fun h2 => ?_
          · simp
            intro x hx
            rw [List.take_add_one, hd2, List.mem_append] at hx
            rcases hx with hx | hx
            · exact hj x hx
            · simp at hx
              subst hx
              exact h2
          · simp
            rw [fitsD]
            have : l.all (fitsD n) = false := List.all_eq_false.mpr ⟨d, List.mem_of_getElem? hd2, by rw [h2]; decide⟩
            rw [this, Bool.and_false]
        · rintro ρ S2 ⟨rfl, ⟨x, rfl⟩, hj⟩
          rw [List.take_length] at hj
          simp [g_fits_values_3]
          rw [fitsD, decide_eq_true (by omega), Bool.true_and]
          exact List.all_eq_true.mpr hj
    | ref j =>
      obtain ⟨l, hl⟩ := (hd.1 : ∃ l, lstOf S1 j = some l)
      have e : ∀ t, isTy S1 (.ref j) t = some (match t with | .list => true | _ => false) := fun t => by cases t <;> simp [isTy, hl]
      simp [isI, fitsD, g_fits_values_1, e]
    | _ => simp [isI, fitsD, g_fits_values_1]
theorem isvalue_spec (hV : Fs[iV]? = some ⟨1, 1, g_is_value iF gL⟩) (hF : Fs[iF]? = some ⟨2, 3, g_fits_values iI iF gM⟩) (hI : Fs[iI]? = some ⟨1, 1, b_isint⟩) (hG : G[gM]? = some (.int 64)) (hL : G[gL]? = some (.int 8)) {S : Sto} {d : D} (hd : knD S 8 d) (k : Nat) :
    wp (run Fs G w (k + 11) iV [d] S) (fun y S' => S' = S ∧ y = .bl (fitsD 8 d)) nE := by
  refine wp_run hV rfl ?_
  simp [g_is_value, enter, hL]
  exact fitsv_spec hF hI hG S 8 d k hd
theorem lookup_cons' {a k : Str} {b : D} {l : List (Str × D)} : List.lookup a ((k, b) :: l) = if a == k then some b else List.lookup a l := by
  rw [List.lookup_cons]
  cases a == k <;> rfl
theorem c_neNI {S : Sto} {i : Int} : cm2 .ne .non (.int i) S = some true := rfl
structure TestFs (Fs : List Fn) (G : List D) (iT iF iI iA iV iW gM gL gT : Nat) : Prop where
  T : Fs[iT]? = some ⟨1, 1, g_is_test iF gT⟩
  F : Fs[iF]? = some ⟨2, 3, g_fits_checks iI iA iV iF⟩
  I : Fs[iI]? = some ⟨1, 1, b_isint⟩
  A : Fs[iA]? = some ⟨1, 1, b_hashead⟩
  V : Fs[iV]? = some ⟨1, 1, g_is_value iW gL⟩
  W : Fs[iW]? = some ⟨2, 3, g_fits_values iI iW gM⟩
  gM : G[gM]? = some (.int 64)
  gL : G[gL]? = some (.int 8)
  gT : G[gT]? = some (.int 6)
variable {iT iA iW gT : Nat}
theorem fitst_spec (hF : TestFs Fs G iT iF iI iA iV iW gM gL gT) (S : Sto) : ∀ (t : Te) (n k : Nat), t.ok 8 → t.dep ≤ n → wp (run Fs G w (k + 12 + t.dep) iF [t.d, .int n] S) (fun y S' => S' = S ∧ y = .bl true) nE := by
  intro t
  have head : ∀ (n k : Nat) (t : Te), t.dep ≤ n → ((n : Int) == 0) = false := fun n k t h => by
    have : 1 ≤ t.dep := by cases t <;> simp [Te.dep]
    exact beq_false_of_ne (by omega)
  induction t with
  | eq v =>
    intro n k ht hn
    have n0 := head n k (.eq v) hn
    refine wp_run hF.F rfl ?_
    simp [g_fits_checks, enter, Te.d, n0]
    refine wp_use (hashead_spec hF.A (k := k + 11) (S := S) (d := .tup [.str "equals", v.d]) trivial fun x l h => by cases h; trivial) ?_
    rintro y S1 ⟨rfl, rfl⟩
    simp [LIM, hasH, lookup_cons', g_fits_checks_1]
    refine wp_use (isvalue_spec hF.V hF.W hF.I hF.gM hF.gL (knD_v S1 8 v) (k + 1)) ?_
    rintro y S2 ⟨rfl, rfl⟩
    simp
    exact fits_v 8 v ht.1
  | less i =>
    intro n k ht hn
    have n0 := head n k (.less i) hn
    refine wp_run hF.F rfl ?_
    simp [g_fits_checks, enter, Te.d, n0]
    refine wp_use (hashead_spec hF.A (k := k + 11) (S := S) (d := .tup [.str "less", .int i]) trivial fun x l h => by cases h; trivial) ?_
    rintro y S1 ⟨rfl, rfl⟩
    simp [LIM, hasH, lookup_cons', g_fits_checks_1, g_fits_checks_2]
    refine wp_use (isint_spec hF.I (k := k + 11) (d := .int i) trivial) ?_
    rintro y S2 ⟨rfl, rfl⟩
    simp [isI]
  | size i =>
    intro n k ht hn
    have n0 := head n k (.size i) hn
    refine wp_run hF.F rfl ?_
    simp [g_fits_checks, enter, Te.d, n0]
    refine wp_use (hashead_spec hF.A (k := k + 11) (S := S) (d := .tup [.str "size", .int i]) trivial fun x l h => by cases h; trivial) ?_
    rintro y S1 ⟨rfl, rfl⟩
    simp [LIM, hasH, lookup_cons', g_fits_checks_1, g_fits_checks_2]
    refine wp_use (isint_spec hF.I (k := k + 11) (d := .int i) trivial) ?_
    rintro y S2 ⟨rfl, rfl⟩
    simp [isI]
  | even =>
    intro n k ht hn
    have n0 := head n k .even hn
    refine wp_run hF.F rfl ?_
    simp [g_fits_checks, enter, Te.d, n0]
    refine wp_use (hashead_spec hF.A (k := k + 11) (S := S) (d := .tup [.str "even"]) trivial fun x l h => by cases h; trivial) ?_
    rintro y S1 ⟨rfl, rfl⟩
    simp [LIM, hasH, lookup_cons', g_fits_checks_1, g_fits_checks_2, g_fits_checks_3, cut_1]
    refine forL_items (l := []) (fun j ρ S2 => S2 = S1) (by intro j ρ S2 d h; simp at h) ?_ _ 0 _ _ (by simp) (by simp) rfl
    rintro ρ S2 rfl
    simp [g_fits_checks_4]
  | rising =>
    intro n k ht hn
    have n0 := head n k .rising hn
    refine wp_run hF.F rfl ?_
    simp [g_fits_checks, enter, Te.d, n0]
    refine wp_use (hashead_spec hF.A (k := k + 11) (S := S) (d := .tup [.str "rising"]) trivial fun x l h => by cases h; trivial) ?_
    rintro y S1 ⟨rfl, rfl⟩
    simp [LIM, hasH, lookup_cons', g_fits_checks_1, g_fits_checks_2, g_fits_checks_3, cut_1]
    refine forL_items (l := []) (fun j ρ S2 => S2 = S1) (by intro j ρ S2 d h; simp at h) ?_ _ 0 _ _ (by simp) (by simp) rfl
    rintro ρ S2 rfl
    simp [g_fits_checks_4]
  | no t ih =>
    intro n k ht hn
    have n0 := head n k (.no t) hn
    refine wp_run hF.F rfl ?_
    simp [g_fits_checks, enter, Te.d, n0]
    refine wp_use (runk (by omega) (hashead_spec hF.A (k := k + 11 + t.dep) (S := S) (d := .tup [.str "not", t.d]) trivial fun x l h => by cases h; trivial)) ?_
    rintro y S1 ⟨rfl, rfl⟩
    simp [LIM, hasH, lookup_cons', g_fits_checks_1, g_fits_checks_2, g_fits_checks_3, cut_1]
    refine forL_items (l := [t.d]) (fun j ρ S2 => S2 = S1 ∧ ∃ x, ρ = [some (.tup [.str "not", t.d]), some (.int n), x]) ?_ ?_ _ 0 _ _ (by simp) (by simp) ⟨rfl, _, rfl⟩
    · rintro j ρ S2 d hd ⟨rfl, x, rfl⟩
      have : d = t.d := by
        cases j with
        | zero => simpa using hd.symm
        | succ j => simp at hd
      subst this
      refine ⟨_, rfl, ?_⟩
      have a1 : (n : Int) - 1 = ((n - 1 : Nat) : Int) := by simp only [Te.dep] at hn; omega
      simp
      rw [a1]
      refine wp_use (ih (n - 1) k ht (by simp only [Te.dep] at hn; omega)) ?_
      rintro y S3 ⟨rfl, rfl⟩
      simp
    · rintro ρ S2 ⟨rfl, x, rfl⟩
      simp [g_fits_checks_4]
  | both t u ih1 ih2 =>
    intro n k ht hn
    have n0 := head n k (.both t u) hn
    have e1 : ∀ S, t.dep ≤ n - 1 := fun _ => by simp only [Te.dep] at hn; omega
    refine wp_run (k := k + 12 + max t.dep u.dep) hF.F rfl ?_
    simp [g_fits_checks, enter, Te.d, n0]
    refine wp_use (runk (by omega) (hashead_spec hF.A (k := k + 11 + max t.dep u.dep) (S := S) (d := .tup [.str "both", t.d, u.d]) trivial fun x l h => by cases h; trivial)) ?_
    rintro y S1 ⟨rfl, rfl⟩
    simp [LIM, hasH, lookup_cons', g_fits_checks_1, g_fits_checks_2, g_fits_checks_3, cut_1]
    refine forL_items (l := [t.d, u.d]) (fun j ρ S2 => S2 = S1 ∧ ∃ x, ρ = [some (.tup [.str "both", t.d, u.d]), some (.int n), x]) ?_ ?_ _ 0 _ _ (by simp) (by simp) ⟨rfl, _, rfl⟩
    · rintro j ρ S2 d hd ⟨rfl, x, rfl⟩
      have : d = t.d ∨ d = u.d := by
        cases j with
        | zero => left; simpa using hd.symm
        | succ j => cases j with
          | zero => right; simpa using hd.symm
          | succ j => simp at hd
      refine ⟨_, rfl, ?_⟩
      have a1 : (n : Int) - 1 = ((n - 1 : Nat) : Int) := by simp only [Te.dep] at hn; omega
      simp
      rw [a1]
      rcases this with rfl | rfl
      · refine wp_use (runk (by omega) (ih1 (n - 1) (k + (max t.dep u.dep - t.dep)) ht.1 (by simp only [Te.dep] at hn; omega))) ?_
        rintro y S3 ⟨rfl, rfl⟩
        simp
      · refine wp_use (runk (by omega) (ih2 (n - 1) (k + (max t.dep u.dep - u.dep)) ht.2 (by simp only [Te.dep] at hn; omega))) ?_
        rintro y S3 ⟨rfl, rfl⟩
        simp
    · rintro ρ S2 ⟨rfl, x, rfl⟩
      simp [g_fits_checks_4]
  | either t u ih1 ih2 =>
    intro n k ht hn
    have n0 := head n k (.either t u) hn
    have e1 : ∀ S, t.dep ≤ n - 1 := fun _ => by simp only [Te.dep] at hn; omega
    refine wp_run (k := k + 12 + max t.dep u.dep) hF.F rfl ?_
    simp [g_fits_checks, enter, Te.d, n0]
    refine wp_use (runk (by omega) (hashead_spec hF.A (k := k + 11 + max t.dep u.dep) (S := S) (d := .tup [.str "either", t.d, u.d]) trivial fun x l h => by cases h; trivial)) ?_
    rintro y S1 ⟨rfl, rfl⟩
    simp [LIM, hasH, lookup_cons', g_fits_checks_1, g_fits_checks_2, g_fits_checks_3, cut_1]
    refine forL_items (l := [t.d, u.d]) (fun j ρ S2 => S2 = S1 ∧ ∃ x, ρ = [some (.tup [.str "either", t.d, u.d]), some (.int n), x]) ?_ ?_ _ 0 _ _ (by simp) (by simp) ⟨rfl, _, rfl⟩
    · rintro j ρ S2 d hd ⟨rfl, x, rfl⟩
      have : d = t.d ∨ d = u.d := by
        cases j with
        | zero => left; simpa using hd.symm
        | succ j => cases j with
          | zero => right; simpa using hd.symm
          | succ j => simp at hd
      refine ⟨_, rfl, ?_⟩
      have a1 : (n : Int) - 1 = ((n - 1 : Nat) : Int) := by simp only [Te.dep] at hn; omega
      simp
      rw [a1]
      rcases this with rfl | rfl
      · refine wp_use (runk (by omega) (ih1 (n - 1) (k + (max t.dep u.dep - t.dep)) ht.1 (by simp only [Te.dep] at hn; omega))) ?_
        rintro y S3 ⟨rfl, rfl⟩
        simp
      · refine wp_use (runk (by omega) (ih2 (n - 1) (k + (max t.dep u.dep - u.dep)) ht.2 (by simp only [Te.dep] at hn; omega))) ?_
        rintro y S3 ⟨rfl, rfl⟩
        simp
    · rintro ρ S2 ⟨rfl, x, rfl⟩
      simp [g_fits_checks_4]
  | all t ih =>
    intro n k ht hn
    have n0 := head n k (.all t) hn
    refine wp_run hF.F rfl ?_
    simp [g_fits_checks, enter, Te.d, n0]
    refine wp_use (runk (by omega) (hashead_spec hF.A (k := k + 11 + t.dep) (S := S) (d := .tup [.str "all", t.d]) trivial fun x l h => by cases h; trivial)) ?_
    rintro y S1 ⟨rfl, rfl⟩
    simp [LIM, hasH, lookup_cons', g_fits_checks_1, g_fits_checks_2, g_fits_checks_3, cut_1]
    refine forL_items (l := [t.d]) (fun j ρ S2 => S2 = S1 ∧ ∃ x, ρ = [some (.tup [.str "all", t.d]), some (.int n), x]) ?_ ?_ _ 0 _ _ (by simp) (by simp) ⟨rfl, _, rfl⟩
    · rintro j ρ S2 d hd ⟨rfl, x, rfl⟩
      have : d = t.d := by
        cases j with
        | zero => simpa using hd.symm
        | succ j => simp at hd
      subst this
      refine ⟨_, rfl, ?_⟩
      have a1 : (n : Int) - 1 = ((n - 1 : Nat) : Int) := by simp only [Te.dep] at hn; omega
      simp
      rw [a1]
      refine wp_use (ih (n - 1) k ht (by simp only [Te.dep] at hn; omega)) ?_
      rintro y S3 ⟨rfl, rfl⟩
      simp
    · rintro ρ S2 ⟨rfl, x, rfl⟩
      simp [g_fits_checks_4]
  | any t ih =>
    intro n k ht hn
    have n0 := head n k (.any t) hn
    refine wp_run hF.F rfl ?_
    simp [g_fits_checks, enter, Te.d, n0]
    refine wp_use (runk (by omega) (hashead_spec hF.A (k := k + 11 + t.dep) (S := S) (d := .tup [.str "any", t.d]) trivial fun x l h => by cases h; trivial)) ?_
    rintro y S1 ⟨rfl, rfl⟩
    simp [LIM, hasH, lookup_cons', g_fits_checks_1, g_fits_checks_2, g_fits_checks_3, cut_1]
    refine forL_items (l := [t.d]) (fun j ρ S2 => S2 = S1 ∧ ∃ x, ρ = [some (.tup [.str "any", t.d]), some (.int n), x]) ?_ ?_ _ 0 _ _ (by simp) (by simp) ⟨rfl, _, rfl⟩
    · rintro j ρ S2 d hd ⟨rfl, x, rfl⟩
      have : d = t.d := by
        cases j with
        | zero => simpa using hd.symm
        | succ j => simp at hd
      subst this
      refine ⟨_, rfl, ?_⟩
      have a1 : (n : Int) - 1 = ((n - 1 : Nat) : Int) := by simp only [Te.dep] at hn; omega
      simp
      rw [a1]
      refine wp_use (ih (n - 1) k ht (by simp only [Te.dep] at hn; omega)) ?_
      rintro y S3 ⟨rfl, rfl⟩
      simp
    · rintro ρ S2 ⟨rfl, x, rfl⟩
      simp [g_fits_checks_4]
theorem istest_spec (hF : TestFs Fs G iT iF iI iA iV iW gM gL gT) (S : Sto) {t : Te} (k : Nat) (ht : t.ok 8) (hn : t.dep ≤ 6) : wp (run Fs G w (k + 19) iT [t.d] S) (fun y S' => S' = S ∧ y = .bl true) nE := by
  refine wp_run hF.T rfl ?_
  simp [g_is_test, enter, hF.gT]
  exact runk (by omega) (fitst_spec hF S t 6 (k + (6 - t.dep)) ht hn)
end
end Mx
set_option Elab.async false
set_option linter.all false
set_option maxRecDepth 100000
set_option maxHeartbeats 8000000
namespace Mx
open PySem L2
/-! ### values and tests that a law takes of its row -/
theorem Rowp.lt {S : Sto} {r : Nat} (h : Rowp S r) : r < S.length := by
  obtain ⟨c, l, e, _⟩ := h.ex
  exact lt_of_get e
theorem Rowp.put {S : Sto} {r k : Nat} (h : Rowp S r) (hk : r ≠ k) (o : Ob) : Rowp (S.set k o) r := by
  obtain ⟨c, l, e, h1, h2⟩ := h.ex
  exact ⟨c, l, by rw [List.getElem?_set_ne (Ne.symm hk)]; exact e, h1, h2⟩
theorem Rowp.app {S : Sto} {r : Nat} (h : Rowp S r) (l : Sto) : Rowp (S ++ l) r := by
  obtain ⟨c, m, e, h1, h2⟩ := h.ex
  exact ⟨c, m, by rw [List.getElem?_append_left (lt_of_get e)]; exact e, h1, h2⟩
theorem Rowp.ext {S S' : Sto} {r : Nat} (h : Rowp S r) (hx : Ext S S') : Rowp S' r := by
  obtain ⟨c, m, e, h1, h2⟩ := h.ex
  exact ⟨c, m, hx.at e, h1, h2⟩
/-- the most nodes a value of depth n has -/
def ndB : Nat → Nat
  | 0 => 1
  | n + 1 => 1 + 6 * ndB n
def VB (n : Nat) (v : Vl) : Prop := vok n v ∧ v.nd ≤ ndB n
theorem vs_of {P : Vl → Prop} : ∀ {l : List D}, (∀ d ∈ l, ∃ v : Vl, d = v.d ∧ P v) → ∃ vs : List Vl, l = vs.map Vl.d ∧ ∀ v ∈ vs, P v
  | [], _ => ⟨[], rfl, by simp⟩
  | d :: l, h => by
    obtain ⟨v, rfl, hv⟩ := h d List.mem_cons_self
    obtain ⟨vs, rfl, hvs⟩ := vs_of (l := l) fun d' h' => h d' (List.mem_cons_of_mem _ h')
    refine ⟨v :: vs, rfl, fun y hy => ?_⟩
    rcases List.mem_cons.mp hy with rfl | q
    · exact hv
    · exact hvs y q
def b_lvalE (iT i : Nat) (m1 m2 m3 : Int) : Sms :=
 (.cons (.iff (.or (.cmp .eq (.var 1) (.cst (.int 0))) (.cmp .eq (.cal iT (.cons (.var 0) (.cons (.cst (.int 3)) .nil))) (.cst (.int 0))))
  (.cons (.ret (.bin .sub (.cal iT (.cons (.var 0) (.cons (.cst (.int m1)) .nil))) (.cst (.int m2)))) .nil)
  .nil) <|
 (.cons (.ret (.bi .tuple (.cons (.lc (.cal i (.cons (.var 0) (.cons (.bin .sub (.var 1) (.cst (.int 1))) .nil))) [2] (.nm 2) .rng (.cons (.cal iT (.cons (.var 0) (.cons (.cst (.int m3)) .nil))) .nil) .nil) .nil))) .nil))
section
variable {Fs : List Fn} {G : List D} {w k iT i : Nat} {m1 m2 m3 : Int}
theorem ndB_pos : ∀ n, 1 ≤ ndB n
  | 0 => Nat.le_refl _
  | n + 1 => by rw [ndB]; omega
/-- the items of a value -/
theorem lval_items (hT : Fs[iT]? = some ⟨2, 2, b_take⟩) (h3 : 0 < m3) (h3' : m3 ≤ 7) {r n kk : Nat} {ρ : Rho} {S : Sto} (h0 : ρ[0]? = some (some (.ref r))) (h1 : ρ[1]? = some (some (.int ((n : Int) + 1)))) (h2 : 2 < ρ.length) (hr : Rowp S r)
    (ih : ∀ S, Rowp S r → wp (run Fs G w (kk + 1) i [.ref r, .int n] S) (fun d S' => Rowp S' r ∧ ExtR r S S' ∧ ∃ v, d = v.d ∧ VB n v) nE) :
    wp (ev (run Fs G w (kk + 1)) G (.bi .tuple (.cons (.lc (.cal i (.cons (.var 0) (.cons (.bin .sub (.var 1) (.cst (.int 1))) .nil))) [2] (.nm 2) .rng (.cons (.cal iT (.cons (.var 0) (.cons (.cst (.int m3)) .nil))) .nil) .nil) .nil)) false ρ S) (fun d S' => Rowp S' r ∧ ExtR r S S' ∧ ∃ v, d = v.d ∧ VB (n + 1) v) nE := by
  simp [h0]
  refine wp_use (take_spec hT h3 hr) ?_
  rintro d S1 ⟨hr1, hf, x, rfl, hx0, hx1⟩
  simp [wipeD]
  refine ⟨okR_of (by omega) (by omega), ?_⟩
  refine lc_gen (L := rng 0 x.toNat) (fun j => j = r) (fun S => Rowp S r) (fun _ o => ∃ y, o = some y ∧ ∃ v : Vl, y = v.d ∧ VB n v) S1 (by rw [rng_len]; simp [LIM]; omega) (by have := hr1.lt; omega) (fun _ _ _ => nx_items) (fun S2 o h => h.put (by have := hr1.lt; omega) o) (hr1.app _) ?_ ?_ _ (by simp)
  · intro j d S2 hd hx2 hlt hr2
    refine ⟨_, rfl, ?_⟩
    simp
    have g0 : (ρ.set 2 none)[0]? = some (some (.ref r)) := by rw [List.getElem?_set_ne (by decide)]; exact h0
    have g1 : (ρ.set 2 none)[1]? = some (some (.int ((n : Int) + 1))) := by rw [List.getElem?_set_ne (by decide)]; exact h1
    simp [h0, h1]
    refine ⟨ExtP.refl _ _, hr2, ?_⟩
    refine wp_use (ih S2 hr2) ?_
    rintro y S3 ⟨hr3, hx3, v, rfl, hv⟩
    exact ⟨hx3.toP, hr3, v.d, rfl, v, rfl, hv⟩
  · intro S2 acc hx2 hr2 hk hl
    have e := hl.each (T := fun y => ∃ v : Vl, y = v.d ∧ VB n v) fun d y h => by
      obtain ⟨y', h1, h2⟩ := h
      cases h1
      exact h2
    obtain ⟨vs, rfl, hvs⟩ := vs_of e
    have len := hl.len
    rw [rng_len, List.length_map] at len
    simp [lst_lst hk]
    refine ⟨hr2, hf.toR.trans hx2.toR, .tup vs, by rw [d_tup], ⟨by omega, fun v hv => (hvs v hv).1⟩, ?_⟩
    have := nds_le vs fun v hv => (hvs v hv).2
    have h6 : vs.length * ndB n ≤ 6 * ndB n := Nat.mul_le_mul_right _ (by omega)
    rw [Vl.nd, ndB]
    omega
theorem lvalE_spec (hF : Fs[i]? = some ⟨2, 3, b_lvalE iT i m1 m2 m3⟩) (hT : Fs[iT]? = some ⟨2, 2, b_take⟩) (h1 : 0 < m1) (h3 : 0 < m3) (h3' : m3 ≤ 7) {r : Nat} : ∀ (n k : Nat) (S : Sto), Rowp S r →
    wp (run Fs G w (k + n + 2) i [.ref r, .int n] S) (fun d S' => Rowp S' r ∧ ExtR r S S' ∧ ∃ v, d = v.d ∧ VB n v) nE := by
  have leaf : ∀ (n : Nat) (z : Int), VB n (.int z) := fun n z => ⟨by cases n <;> trivial, by rw [Vl.nd]; exact ndB_pos n⟩
  intro n
  induction n with
  | zero =>
    intro k S hr
    refine wp_run hF rfl ?_
    simp [b_lvalE, enter]
    refine wp_use (take_spec hT h1 hr) ?_
    rintro d S1 ⟨hr1, hf, x, rfl, _⟩
    simp
    exact ⟨hr1, hf.toR, .int (x - m2), by rw [d_int], leaf _ _⟩
  | succ n ih =>
    intro k S hr
    refine wp_run hF rfl ?_
    have n0 : ((n : Int) + 1 == 0) = false := beq_false_of_ne (by omega)
    simp [b_lvalE, enter, n0, -wp_bi]
    refine wp_use (runk (by omega) (take_spec (k := k + n + 1) hT (by decide : (0 : Int) < 3) hr)) ?_
    rintro d S1 ⟨hr1, hf, x, rfl, _⟩
    simp [-wp_bi]
    refine cas_beq (fun _ => ?_) fun _ => ?_
    · simp
      refine wp_use (runk (by omega) (take_spec (k := k + n + 1) hT h1 hr1)) ?_
      rintro d S2 ⟨hr2, hf2, y, rfl, _⟩
      simp
      exact ⟨hr2, hf.toR.trans hf2.toR, .int (y - m2), by rw [d_int], leaf _ _⟩
    · simp only [exs_nil, aft_nx, kon_go, exs_cons, ex_ret, aft_ret, lvQ_ret]
      refine wp_mono (lval_items (kk := k + n + 1) hT h3 h3' rfl rfl (by simp) hr1 fun S hS => runk (by omega) (ih k S hS)) (fun d S2 h => ?_) fun _ _ z => z
      exact ⟨h.1, hf.toR.trans h.2.1, h.2.2⟩
end
end Mx
set_option Elab.async false
set_option linter.all false
set_option maxRecDepth 100000
/-! texts that are compared -/
namespace Mx
open PySem L2
@[simp] theorem okt_var : PyData.strOk (Str.ofString "var") = true := by decide +kernel
@[simp] theorem okt_upto : PyData.strOk (Str.ofString "upto") = true := by decide +kernel
@[simp] theorem okt_pick : PyData.strOk (Str.ofString "pick") = true := by decide +kernel
@[simp] theorem okt_tuple : PyData.strOk (Str.ofString "tuple") = true := by decide +kernel
@[simp] theorem okt_weigh : PyData.strOk (Str.ofString "weigh") = true := by decide +kernel
@[simp] theorem okt_list : PyData.strOk (Str.ofString "list") = true := by decide +kernel
@[simp] theorem okt_map : PyData.strOk (Str.ofString "map") = true := by decide +kernel
@[simp] theorem okt_keep : PyData.strOk (Str.ofString "keep") = true := by decide +kernel
@[simp] theorem okt_let : PyData.strOk (Str.ofString "let") = true := by decide +kernel
@[simp] theorem okt_grow : PyData.strOk (Str.ofString "grow") = true := by decide +kernel
@[simp] theorem okt_self : PyData.strOk (Str.ofString "self") = true := by decide +kernel
@[simp] theorem okt_const : PyData.strOk (Str.ofString "const") = true := by decide +kernel
@[simp] theorem okt_range : PyData.strOk (Str.ofString "range") = true := by decide +kernel
@[simp] theorem okt_shuffle : PyData.strOk (Str.ofString "shuffle") = true := by decide +kernel
@[simp] theorem okt_discard : PyData.strOk (Str.ofString "discard") = true := by decide +kernel
@[simp] theorem okt_x : PyData.strOk (Str.ofString "x") = true := by decide +kernel
@[simp] theorem okt_y : PyData.strOk (Str.ofString "y") = true := by decide +kernel
@[simp] theorem okt_abc : PyData.strOk (Str.ofString "abc") = true := by decide +kernel
@[simp] theorem net_var_upto : (Str.ofString "var" == Str.ofString "upto") = false := by decide +kernel
@[simp] theorem net_var_pick : (Str.ofString "var" == Str.ofString "pick") = false := by decide +kernel
@[simp] theorem net_var_tuple : (Str.ofString "var" == Str.ofString "tuple") = false := by decide +kernel
@[simp] theorem net_var_weigh : (Str.ofString "var" == Str.ofString "weigh") = false := by decide +kernel
@[simp] theorem net_var_list : (Str.ofString "var" == Str.ofString "list") = false := by decide +kernel
@[simp] theorem net_var_map : (Str.ofString "var" == Str.ofString "map") = false := by decide +kernel
@[simp] theorem net_var_keep : (Str.ofString "var" == Str.ofString "keep") = false := by decide +kernel
@[simp] theorem net_var_let : (Str.ofString "var" == Str.ofString "let") = false := by decide +kernel
@[simp] theorem net_var_grow : (Str.ofString "var" == Str.ofString "grow") = false := by decide +kernel
@[simp] theorem net_var_self : (Str.ofString "var" == Str.ofString "self") = false := by decide +kernel
@[simp] theorem net_var_const : (Str.ofString "var" == Str.ofString "const") = false := by decide +kernel
@[simp] theorem net_var_range : (Str.ofString "var" == Str.ofString "range") = false := by decide +kernel
@[simp] theorem net_var_shuffle : (Str.ofString "var" == Str.ofString "shuffle") = false := by decide +kernel
@[simp] theorem net_var_discard : (Str.ofString "var" == Str.ofString "discard") = false := by decide +kernel
@[simp] theorem net_var_x : (Str.ofString "var" == Str.ofString "x") = false := by decide +kernel
@[simp] theorem net_var_y : (Str.ofString "var" == Str.ofString "y") = false := by decide +kernel
@[simp] theorem net_var_abc : (Str.ofString "var" == Str.ofString "abc") = false := by decide +kernel
@[simp] theorem net_upto_var : (Str.ofString "upto" == Str.ofString "var") = false := by decide +kernel
@[simp] theorem net_upto_pick : (Str.ofString "upto" == Str.ofString "pick") = false := by decide +kernel
@[simp] theorem net_upto_tuple : (Str.ofString "upto" == Str.ofString "tuple") = false := by decide +kernel
@[simp] theorem net_upto_weigh : (Str.ofString "upto" == Str.ofString "weigh") = false := by decide +kernel
@[simp] theorem net_upto_list : (Str.ofString "upto" == Str.ofString "list") = false := by decide +kernel
@[simp] theorem net_upto_map : (Str.ofString "upto" == Str.ofString "map") = false := by decide +kernel
@[simp] theorem net_upto_keep : (Str.ofString "upto" == Str.ofString "keep") = false := by decide +kernel
@[simp] theorem net_upto_let : (Str.ofString "upto" == Str.ofString "let") = false := by decide +kernel
@[simp] theorem net_upto_grow : (Str.ofString "upto" == Str.ofString "grow") = false := by decide +kernel
@[simp] theorem net_upto_self : (Str.ofString "upto" == Str.ofString "self") = false := by decide +kernel
@[simp] theorem net_upto_const : (Str.ofString "upto" == Str.ofString "const") = false := by decide +kernel
@[simp] theorem net_upto_range : (Str.ofString "upto" == Str.ofString "range") = false := by decide +kernel
@[simp] theorem net_upto_shuffle : (Str.ofString "upto" == Str.ofString "shuffle") = false := by decide +kernel
@[simp] theorem net_upto_discard : (Str.ofString "upto" == Str.ofString "discard") = false := by decide +kernel
@[simp] theorem net_upto_x : (Str.ofString "upto" == Str.ofString "x") = false := by decide +kernel
@[simp] theorem net_upto_y : (Str.ofString "upto" == Str.ofString "y") = false := by decide +kernel
@[simp] theorem net_upto_abc : (Str.ofString "upto" == Str.ofString "abc") = false := by decide +kernel
@[simp] theorem net_pick_var : (Str.ofString "pick" == Str.ofString "var") = false := by decide +kernel
@[simp] theorem net_pick_upto : (Str.ofString "pick" == Str.ofString "upto") = false := by decide +kernel
@[simp] theorem net_pick_tuple : (Str.ofString "pick" == Str.ofString "tuple") = false := by decide +kernel
@[simp] theorem net_pick_weigh : (Str.ofString "pick" == Str.ofString "weigh") = false := by decide +kernel
@[simp] theorem net_pick_list : (Str.ofString "pick" == Str.ofString "list") = false := by decide +kernel
@[simp] theorem net_pick_map : (Str.ofString "pick" == Str.ofString "map") = false := by decide +kernel
@[simp] theorem net_pick_keep : (Str.ofString "pick" == Str.ofString "keep") = false := by decide +kernel
@[simp] theorem net_pick_let : (Str.ofString "pick" == Str.ofString "let") = false := by decide +kernel
@[simp] theorem net_pick_grow : (Str.ofString "pick" == Str.ofString "grow") = false := by decide +kernel
@[simp] theorem net_pick_self : (Str.ofString "pick" == Str.ofString "self") = false := by decide +kernel
@[simp] theorem net_pick_const : (Str.ofString "pick" == Str.ofString "const") = false := by decide +kernel
@[simp] theorem net_pick_range : (Str.ofString "pick" == Str.ofString "range") = false := by decide +kernel
@[simp] theorem net_pick_shuffle : (Str.ofString "pick" == Str.ofString "shuffle") = false := by decide +kernel
@[simp] theorem net_pick_discard : (Str.ofString "pick" == Str.ofString "discard") = false := by decide +kernel
@[simp] theorem net_pick_x : (Str.ofString "pick" == Str.ofString "x") = false := by decide +kernel
@[simp] theorem net_pick_y : (Str.ofString "pick" == Str.ofString "y") = false := by decide +kernel
@[simp] theorem net_pick_abc : (Str.ofString "pick" == Str.ofString "abc") = false := by decide +kernel
@[simp] theorem net_tuple_var : (Str.ofString "tuple" == Str.ofString "var") = false := by decide +kernel
@[simp] theorem net_tuple_upto : (Str.ofString "tuple" == Str.ofString "upto") = false := by decide +kernel
@[simp] theorem net_tuple_pick : (Str.ofString "tuple" == Str.ofString "pick") = false := by decide +kernel
@[simp] theorem net_tuple_weigh : (Str.ofString "tuple" == Str.ofString "weigh") = false := by decide +kernel
@[simp] theorem net_tuple_list : (Str.ofString "tuple" == Str.ofString "list") = false := by decide +kernel
@[simp] theorem net_tuple_map : (Str.ofString "tuple" == Str.ofString "map") = false := by decide +kernel
@[simp] theorem net_tuple_keep : (Str.ofString "tuple" == Str.ofString "keep") = false := by decide +kernel
@[simp] theorem net_tuple_let : (Str.ofString "tuple" == Str.ofString "let") = false := by decide +kernel
@[simp] theorem net_tuple_grow : (Str.ofString "tuple" == Str.ofString "grow") = false := by decide +kernel
@[simp] theorem net_tuple_self : (Str.ofString "tuple" == Str.ofString "self") = false := by decide +kernel
@[simp] theorem net_tuple_const : (Str.ofString "tuple" == Str.ofString "const") = false := by decide +kernel
@[simp] theorem net_tuple_range : (Str.ofString "tuple" == Str.ofString "range") = false := by decide +kernel
@[simp] theorem net_tuple_shuffle : (Str.ofString "tuple" == Str.ofString "shuffle") = false := by decide +kernel
@[simp] theorem net_tuple_discard : (Str.ofString "tuple" == Str.ofString "discard") = false := by decide +kernel
@[simp] theorem net_tuple_x : (Str.ofString "tuple" == Str.ofString "x") = false := by decide +kernel
@[simp] theorem net_tuple_y : (Str.ofString "tuple" == Str.ofString "y") = false := by decide +kernel
@[simp] theorem net_tuple_abc : (Str.ofString "tuple" == Str.ofString "abc") = false := by decide +kernel
@[simp] theorem net_weigh_var : (Str.ofString "weigh" == Str.ofString "var") = false := by decide +kernel
@[simp] theorem net_weigh_upto : (Str.ofString "weigh" == Str.ofString "upto") = false := by decide +kernel
@[simp] theorem net_weigh_pick : (Str.ofString "weigh" == Str.ofString "pick") = false := by decide +kernel
@[simp] theorem net_weigh_tuple : (Str.ofString "weigh" == Str.ofString "tuple") = false := by decide +kernel
@[simp] theorem net_weigh_list : (Str.ofString "weigh" == Str.ofString "list") = false := by decide +kernel
@[simp] theorem net_weigh_map : (Str.ofString "weigh" == Str.ofString "map") = false := by decide +kernel
@[simp] theorem net_weigh_keep : (Str.ofString "weigh" == Str.ofString "keep") = false := by decide +kernel
@[simp] theorem net_weigh_let : (Str.ofString "weigh" == Str.ofString "let") = false := by decide +kernel
@[simp] theorem net_weigh_grow : (Str.ofString "weigh" == Str.ofString "grow") = false := by decide +kernel
@[simp] theorem net_weigh_self : (Str.ofString "weigh" == Str.ofString "self") = false := by decide +kernel
@[simp] theorem net_weigh_const : (Str.ofString "weigh" == Str.ofString "const") = false := by decide +kernel
@[simp] theorem net_weigh_range : (Str.ofString "weigh" == Str.ofString "range") = false := by decide +kernel
@[simp] theorem net_weigh_shuffle : (Str.ofString "weigh" == Str.ofString "shuffle") = false := by decide +kernel
@[simp] theorem net_weigh_discard : (Str.ofString "weigh" == Str.ofString "discard") = false := by decide +kernel
@[simp] theorem net_weigh_x : (Str.ofString "weigh" == Str.ofString "x") = false := by decide +kernel
@[simp] theorem net_weigh_y : (Str.ofString "weigh" == Str.ofString "y") = false := by decide +kernel
@[simp] theorem net_weigh_abc : (Str.ofString "weigh" == Str.ofString "abc") = false := by decide +kernel
@[simp] theorem net_list_var : (Str.ofString "list" == Str.ofString "var") = false := by decide +kernel
@[simp] theorem net_list_upto : (Str.ofString "list" == Str.ofString "upto") = false := by decide +kernel
@[simp] theorem net_list_pick : (Str.ofString "list" == Str.ofString "pick") = false := by decide +kernel
@[simp] theorem net_list_tuple : (Str.ofString "list" == Str.ofString "tuple") = false := by decide +kernel
@[simp] theorem net_list_weigh : (Str.ofString "list" == Str.ofString "weigh") = false := by decide +kernel
@[simp] theorem net_list_map : (Str.ofString "list" == Str.ofString "map") = false := by decide +kernel
@[simp] theorem net_list_keep : (Str.ofString "list" == Str.ofString "keep") = false := by decide +kernel
@[simp] theorem net_list_let : (Str.ofString "list" == Str.ofString "let") = false := by decide +kernel
@[simp] theorem net_list_grow : (Str.ofString "list" == Str.ofString "grow") = false := by decide +kernel
@[simp] theorem net_list_self : (Str.ofString "list" == Str.ofString "self") = false := by decide +kernel
@[simp] theorem net_list_const : (Str.ofString "list" == Str.ofString "const") = false := by decide +kernel
@[simp] theorem net_list_range : (Str.ofString "list" == Str.ofString "range") = false := by decide +kernel
@[simp] theorem net_list_shuffle : (Str.ofString "list" == Str.ofString "shuffle") = false := by decide +kernel
@[simp] theorem net_list_discard : (Str.ofString "list" == Str.ofString "discard") = false := by decide +kernel
@[simp] theorem net_list_x : (Str.ofString "list" == Str.ofString "x") = false := by decide +kernel
@[simp] theorem net_list_y : (Str.ofString "list" == Str.ofString "y") = false := by decide +kernel
@[simp] theorem net_list_abc : (Str.ofString "list" == Str.ofString "abc") = false := by decide +kernel
@[simp] theorem net_map_var : (Str.ofString "map" == Str.ofString "var") = false := by decide +kernel
@[simp] theorem net_map_upto : (Str.ofString "map" == Str.ofString "upto") = false := by decide +kernel
@[simp] theorem net_map_pick : (Str.ofString "map" == Str.ofString "pick") = false := by decide +kernel
@[simp] theorem net_map_tuple : (Str.ofString "map" == Str.ofString "tuple") = false := by decide +kernel
@[simp] theorem net_map_weigh : (Str.ofString "map" == Str.ofString "weigh") = false := by decide +kernel
@[simp] theorem net_map_list : (Str.ofString "map" == Str.ofString "list") = false := by decide +kernel
@[simp] theorem net_map_keep : (Str.ofString "map" == Str.ofString "keep") = false := by decide +kernel
@[simp] theorem net_map_let : (Str.ofString "map" == Str.ofString "let") = false := by decide +kernel
@[simp] theorem net_map_grow : (Str.ofString "map" == Str.ofString "grow") = false := by decide +kernel
@[simp] theorem net_map_self : (Str.ofString "map" == Str.ofString "self") = false := by decide +kernel
@[simp] theorem net_map_const : (Str.ofString "map" == Str.ofString "const") = false := by decide +kernel
@[simp] theorem net_map_range : (Str.ofString "map" == Str.ofString "range") = false := by decide +kernel
@[simp] theorem net_map_shuffle : (Str.ofString "map" == Str.ofString "shuffle") = false := by decide +kernel
@[simp] theorem net_map_discard : (Str.ofString "map" == Str.ofString "discard") = false := by decide +kernel
@[simp] theorem net_map_x : (Str.ofString "map" == Str.ofString "x") = false := by decide +kernel
@[simp] theorem net_map_y : (Str.ofString "map" == Str.ofString "y") = false := by decide +kernel
@[simp] theorem net_map_abc : (Str.ofString "map" == Str.ofString "abc") = false := by decide +kernel
@[simp] theorem net_keep_var : (Str.ofString "keep" == Str.ofString "var") = false := by decide +kernel
@[simp] theorem net_keep_upto : (Str.ofString "keep" == Str.ofString "upto") = false := by decide +kernel
@[simp] theorem net_keep_pick : (Str.ofString "keep" == Str.ofString "pick") = false := by decide +kernel
@[simp] theorem net_keep_tuple : (Str.ofString "keep" == Str.ofString "tuple") = false := by decide +kernel
@[simp] theorem net_keep_weigh : (Str.ofString "keep" == Str.ofString "weigh") = false := by decide +kernel
@[simp] theorem net_keep_list : (Str.ofString "keep" == Str.ofString "list") = false := by decide +kernel
@[simp] theorem net_keep_map : (Str.ofString "keep" == Str.ofString "map") = false := by decide +kernel
@[simp] theorem net_keep_let : (Str.ofString "keep" == Str.ofString "let") = false := by decide +kernel
@[simp] theorem net_keep_grow : (Str.ofString "keep" == Str.ofString "grow") = false := by decide +kernel
@[simp] theorem net_keep_self : (Str.ofString "keep" == Str.ofString "self") = false := by decide +kernel
@[simp] theorem net_keep_const : (Str.ofString "keep" == Str.ofString "const") = false := by decide +kernel
@[simp] theorem net_keep_range : (Str.ofString "keep" == Str.ofString "range") = false := by decide +kernel
@[simp] theorem net_keep_shuffle : (Str.ofString "keep" == Str.ofString "shuffle") = false := by decide +kernel
@[simp] theorem net_keep_discard : (Str.ofString "keep" == Str.ofString "discard") = false := by decide +kernel
@[simp] theorem net_keep_x : (Str.ofString "keep" == Str.ofString "x") = false := by decide +kernel
@[simp] theorem net_keep_y : (Str.ofString "keep" == Str.ofString "y") = false := by decide +kernel
@[simp] theorem net_keep_abc : (Str.ofString "keep" == Str.ofString "abc") = false := by decide +kernel
@[simp] theorem net_let_var : (Str.ofString "let" == Str.ofString "var") = false := by decide +kernel
@[simp] theorem net_let_upto : (Str.ofString "let" == Str.ofString "upto") = false := by decide +kernel
@[simp] theorem net_let_pick : (Str.ofString "let" == Str.ofString "pick") = false := by decide +kernel
@[simp] theorem net_let_tuple : (Str.ofString "let" == Str.ofString "tuple") = false := by decide +kernel
@[simp] theorem net_let_weigh : (Str.ofString "let" == Str.ofString "weigh") = false := by decide +kernel
@[simp] theorem net_let_list : (Str.ofString "let" == Str.ofString "list") = false := by decide +kernel
@[simp] theorem net_let_map : (Str.ofString "let" == Str.ofString "map") = false := by decide +kernel
@[simp] theorem net_let_keep : (Str.ofString "let" == Str.ofString "keep") = false := by decide +kernel
@[simp] theorem net_let_grow : (Str.ofString "let" == Str.ofString "grow") = false := by decide +kernel
@[simp] theorem net_let_self : (Str.ofString "let" == Str.ofString "self") = false := by decide +kernel
@[simp] theorem net_let_const : (Str.ofString "let" == Str.ofString "const") = false := by decide +kernel
@[simp] theorem net_let_range : (Str.ofString "let" == Str.ofString "range") = false := by decide +kernel
@[simp] theorem net_let_shuffle : (Str.ofString "let" == Str.ofString "shuffle") = false := by decide +kernel
@[simp] theorem net_let_discard : (Str.ofString "let" == Str.ofString "discard") = false := by decide +kernel
@[simp] theorem net_let_x : (Str.ofString "let" == Str.ofString "x") = false := by decide +kernel
@[simp] theorem net_let_y : (Str.ofString "let" == Str.ofString "y") = false := by decide +kernel
@[simp] theorem net_let_abc : (Str.ofString "let" == Str.ofString "abc") = false := by decide +kernel
@[simp] theorem net_grow_var : (Str.ofString "grow" == Str.ofString "var") = false := by decide +kernel
@[simp] theorem net_grow_upto : (Str.ofString "grow" == Str.ofString "upto") = false := by decide +kernel
@[simp] theorem net_grow_pick : (Str.ofString "grow" == Str.ofString "pick") = false := by decide +kernel
@[simp] theorem net_grow_tuple : (Str.ofString "grow" == Str.ofString "tuple") = false := by decide +kernel
@[simp] theorem net_grow_weigh : (Str.ofString "grow" == Str.ofString "weigh") = false := by decide +kernel
@[simp] theorem net_grow_list : (Str.ofString "grow" == Str.ofString "list") = false := by decide +kernel
@[simp] theorem net_grow_map : (Str.ofString "grow" == Str.ofString "map") = false := by decide +kernel
@[simp] theorem net_grow_keep : (Str.ofString "grow" == Str.ofString "keep") = false := by decide +kernel
@[simp] theorem net_grow_let : (Str.ofString "grow" == Str.ofString "let") = false := by decide +kernel
@[simp] theorem net_grow_self : (Str.ofString "grow" == Str.ofString "self") = false := by decide +kernel
@[simp] theorem net_grow_const : (Str.ofString "grow" == Str.ofString "const") = false := by decide +kernel
@[simp] theorem net_grow_range : (Str.ofString "grow" == Str.ofString "range") = false := by decide +kernel
@[simp] theorem net_grow_shuffle : (Str.ofString "grow" == Str.ofString "shuffle") = false := by decide +kernel
@[simp] theorem net_grow_discard : (Str.ofString "grow" == Str.ofString "discard") = false := by decide +kernel
@[simp] theorem net_grow_x : (Str.ofString "grow" == Str.ofString "x") = false := by decide +kernel
@[simp] theorem net_grow_y : (Str.ofString "grow" == Str.ofString "y") = false := by decide +kernel
@[simp] theorem net_grow_abc : (Str.ofString "grow" == Str.ofString "abc") = false := by decide +kernel
@[simp] theorem net_self_var : (Str.ofString "self" == Str.ofString "var") = false := by decide +kernel
@[simp] theorem net_self_upto : (Str.ofString "self" == Str.ofString "upto") = false := by decide +kernel
@[simp] theorem net_self_pick : (Str.ofString "self" == Str.ofString "pick") = false := by decide +kernel
@[simp] theorem net_self_tuple : (Str.ofString "self" == Str.ofString "tuple") = false := by decide +kernel
@[simp] theorem net_self_weigh : (Str.ofString "self" == Str.ofString "weigh") = false := by decide +kernel
@[simp] theorem net_self_list : (Str.ofString "self" == Str.ofString "list") = false := by decide +kernel
@[simp] theorem net_self_map : (Str.ofString "self" == Str.ofString "map") = false := by decide +kernel
@[simp] theorem net_self_keep : (Str.ofString "self" == Str.ofString "keep") = false := by decide +kernel
@[simp] theorem net_self_let : (Str.ofString "self" == Str.ofString "let") = false := by decide +kernel
@[simp] theorem net_self_grow : (Str.ofString "self" == Str.ofString "grow") = false := by decide +kernel
@[simp] theorem net_self_const : (Str.ofString "self" == Str.ofString "const") = false := by decide +kernel
@[simp] theorem net_self_range : (Str.ofString "self" == Str.ofString "range") = false := by decide +kernel
@[simp] theorem net_self_shuffle : (Str.ofString "self" == Str.ofString "shuffle") = false := by decide +kernel
@[simp] theorem net_self_discard : (Str.ofString "self" == Str.ofString "discard") = false := by decide +kernel
@[simp] theorem net_self_x : (Str.ofString "self" == Str.ofString "x") = false := by decide +kernel
@[simp] theorem net_self_y : (Str.ofString "self" == Str.ofString "y") = false := by decide +kernel
@[simp] theorem net_self_abc : (Str.ofString "self" == Str.ofString "abc") = false := by decide +kernel
@[simp] theorem net_const_var : (Str.ofString "const" == Str.ofString "var") = false := by decide +kernel
@[simp] theorem net_const_upto : (Str.ofString "const" == Str.ofString "upto") = false := by decide +kernel
@[simp] theorem net_const_pick : (Str.ofString "const" == Str.ofString "pick") = false := by decide +kernel
@[simp] theorem net_const_tuple : (Str.ofString "const" == Str.ofString "tuple") = false := by decide +kernel
@[simp] theorem net_const_weigh : (Str.ofString "const" == Str.ofString "weigh") = false := by decide +kernel
@[simp] theorem net_const_list : (Str.ofString "const" == Str.ofString "list") = false := by decide +kernel
@[simp] theorem net_const_map : (Str.ofString "const" == Str.ofString "map") = false := by decide +kernel
@[simp] theorem net_const_keep : (Str.ofString "const" == Str.ofString "keep") = false := by decide +kernel
@[simp] theorem net_const_let : (Str.ofString "const" == Str.ofString "let") = false := by decide +kernel
@[simp] theorem net_const_grow : (Str.ofString "const" == Str.ofString "grow") = false := by decide +kernel
@[simp] theorem net_const_self : (Str.ofString "const" == Str.ofString "self") = false := by decide +kernel
@[simp] theorem net_const_range : (Str.ofString "const" == Str.ofString "range") = false := by decide +kernel
@[simp] theorem net_const_shuffle : (Str.ofString "const" == Str.ofString "shuffle") = false := by decide +kernel
@[simp] theorem net_const_discard : (Str.ofString "const" == Str.ofString "discard") = false := by decide +kernel
@[simp] theorem net_const_x : (Str.ofString "const" == Str.ofString "x") = false := by decide +kernel
@[simp] theorem net_const_y : (Str.ofString "const" == Str.ofString "y") = false := by decide +kernel
@[simp] theorem net_const_abc : (Str.ofString "const" == Str.ofString "abc") = false := by decide +kernel
@[simp] theorem net_range_var : (Str.ofString "range" == Str.ofString "var") = false := by decide +kernel
@[simp] theorem net_range_upto : (Str.ofString "range" == Str.ofString "upto") = false := by decide +kernel
@[simp] theorem net_range_pick : (Str.ofString "range" == Str.ofString "pick") = false := by decide +kernel
@[simp] theorem net_range_tuple : (Str.ofString "range" == Str.ofString "tuple") = false := by decide +kernel
@[simp] theorem net_range_weigh : (Str.ofString "range" == Str.ofString "weigh") = false := by decide +kernel
@[simp] theorem net_range_list : (Str.ofString "range" == Str.ofString "list") = false := by decide +kernel
@[simp] theorem net_range_map : (Str.ofString "range" == Str.ofString "map") = false := by decide +kernel
@[simp] theorem net_range_keep : (Str.ofString "range" == Str.ofString "keep") = false := by decide +kernel
@[simp] theorem net_range_let : (Str.ofString "range" == Str.ofString "let") = false := by decide +kernel
@[simp] theorem net_range_grow : (Str.ofString "range" == Str.ofString "grow") = false := by decide +kernel
@[simp] theorem net_range_self : (Str.ofString "range" == Str.ofString "self") = false := by decide +kernel
@[simp] theorem net_range_const : (Str.ofString "range" == Str.ofString "const") = false := by decide +kernel
@[simp] theorem net_range_shuffle : (Str.ofString "range" == Str.ofString "shuffle") = false := by decide +kernel
@[simp] theorem net_range_discard : (Str.ofString "range" == Str.ofString "discard") = false := by decide +kernel
@[simp] theorem net_range_x : (Str.ofString "range" == Str.ofString "x") = false := by decide +kernel
@[simp] theorem net_range_y : (Str.ofString "range" == Str.ofString "y") = false := by decide +kernel
@[simp] theorem net_range_abc : (Str.ofString "range" == Str.ofString "abc") = false := by decide +kernel
@[simp] theorem net_shuffle_var : (Str.ofString "shuffle" == Str.ofString "var") = false := by decide +kernel
@[simp] theorem net_shuffle_upto : (Str.ofString "shuffle" == Str.ofString "upto") = false := by decide +kernel
@[simp] theorem net_shuffle_pick : (Str.ofString "shuffle" == Str.ofString "pick") = false := by decide +kernel
@[simp] theorem net_shuffle_tuple : (Str.ofString "shuffle" == Str.ofString "tuple") = false := by decide +kernel
@[simp] theorem net_shuffle_weigh : (Str.ofString "shuffle" == Str.ofString "weigh") = false := by decide +kernel
@[simp] theorem net_shuffle_list : (Str.ofString "shuffle" == Str.ofString "list") = false := by decide +kernel
@[simp] theorem net_shuffle_map : (Str.ofString "shuffle" == Str.ofString "map") = false := by decide +kernel
@[simp] theorem net_shuffle_keep : (Str.ofString "shuffle" == Str.ofString "keep") = false := by decide +kernel
@[simp] theorem net_shuffle_let : (Str.ofString "shuffle" == Str.ofString "let") = false := by decide +kernel
@[simp] theorem net_shuffle_grow : (Str.ofString "shuffle" == Str.ofString "grow") = false := by decide +kernel
@[simp] theorem net_shuffle_self : (Str.ofString "shuffle" == Str.ofString "self") = false := by decide +kernel
@[simp] theorem net_shuffle_const : (Str.ofString "shuffle" == Str.ofString "const") = false := by decide +kernel
@[simp] theorem net_shuffle_range : (Str.ofString "shuffle" == Str.ofString "range") = false := by decide +kernel
@[simp] theorem net_shuffle_discard : (Str.ofString "shuffle" == Str.ofString "discard") = false := by decide +kernel
@[simp] theorem net_shuffle_x : (Str.ofString "shuffle" == Str.ofString "x") = false := by decide +kernel
@[simp] theorem net_shuffle_y : (Str.ofString "shuffle" == Str.ofString "y") = false := by decide +kernel
@[simp] theorem net_shuffle_abc : (Str.ofString "shuffle" == Str.ofString "abc") = false := by decide +kernel
@[simp] theorem net_discard_var : (Str.ofString "discard" == Str.ofString "var") = false := by decide +kernel
@[simp] theorem net_discard_upto : (Str.ofString "discard" == Str.ofString "upto") = false := by decide +kernel
@[simp] theorem net_discard_pick : (Str.ofString "discard" == Str.ofString "pick") = false := by decide +kernel
@[simp] theorem net_discard_tuple : (Str.ofString "discard" == Str.ofString "tuple") = false := by decide +kernel
@[simp] theorem net_discard_weigh : (Str.ofString "discard" == Str.ofString "weigh") = false := by decide +kernel
@[simp] theorem net_discard_list : (Str.ofString "discard" == Str.ofString "list") = false := by decide +kernel
@[simp] theorem net_discard_map : (Str.ofString "discard" == Str.ofString "map") = false := by decide +kernel
@[simp] theorem net_discard_keep : (Str.ofString "discard" == Str.ofString "keep") = false := by decide +kernel
@[simp] theorem net_discard_let : (Str.ofString "discard" == Str.ofString "let") = false := by decide +kernel
@[simp] theorem net_discard_grow : (Str.ofString "discard" == Str.ofString "grow") = false := by decide +kernel
@[simp] theorem net_discard_self : (Str.ofString "discard" == Str.ofString "self") = false := by decide +kernel
@[simp] theorem net_discard_const : (Str.ofString "discard" == Str.ofString "const") = false := by decide +kernel
@[simp] theorem net_discard_range : (Str.ofString "discard" == Str.ofString "range") = false := by decide +kernel
@[simp] theorem net_discard_shuffle : (Str.ofString "discard" == Str.ofString "shuffle") = false := by decide +kernel
@[simp] theorem net_discard_x : (Str.ofString "discard" == Str.ofString "x") = false := by decide +kernel
@[simp] theorem net_discard_y : (Str.ofString "discard" == Str.ofString "y") = false := by decide +kernel
@[simp] theorem net_discard_abc : (Str.ofString "discard" == Str.ofString "abc") = false := by decide +kernel
@[simp] theorem net_x_var : (Str.ofString "x" == Str.ofString "var") = false := by decide +kernel
@[simp] theorem net_x_upto : (Str.ofString "x" == Str.ofString "upto") = false := by decide +kernel
@[simp] theorem net_x_pick : (Str.ofString "x" == Str.ofString "pick") = false := by decide +kernel
@[simp] theorem net_x_tuple : (Str.ofString "x" == Str.ofString "tuple") = false := by decide +kernel
@[simp] theorem net_x_weigh : (Str.ofString "x" == Str.ofString "weigh") = false := by decide +kernel
@[simp] theorem net_x_list : (Str.ofString "x" == Str.ofString "list") = false := by decide +kernel
@[simp] theorem net_x_map : (Str.ofString "x" == Str.ofString "map") = false := by decide +kernel
@[simp] theorem net_x_keep : (Str.ofString "x" == Str.ofString "keep") = false := by decide +kernel
@[simp] theorem net_x_let : (Str.ofString "x" == Str.ofString "let") = false := by decide +kernel
@[simp] theorem net_x_grow : (Str.ofString "x" == Str.ofString "grow") = false := by decide +kernel
@[simp] theorem net_x_self : (Str.ofString "x" == Str.ofString "self") = false := by decide +kernel
@[simp] theorem net_x_const : (Str.ofString "x" == Str.ofString "const") = false := by decide +kernel
@[simp] theorem net_x_range : (Str.ofString "x" == Str.ofString "range") = false := by decide +kernel
@[simp] theorem net_x_shuffle : (Str.ofString "x" == Str.ofString "shuffle") = false := by decide +kernel
@[simp] theorem net_x_discard : (Str.ofString "x" == Str.ofString "discard") = false := by decide +kernel
@[simp] theorem net_x_y : (Str.ofString "x" == Str.ofString "y") = false := by decide +kernel
@[simp] theorem net_x_abc : (Str.ofString "x" == Str.ofString "abc") = false := by decide +kernel
@[simp] theorem net_y_var : (Str.ofString "y" == Str.ofString "var") = false := by decide +kernel
@[simp] theorem net_y_upto : (Str.ofString "y" == Str.ofString "upto") = false := by decide +kernel
@[simp] theorem net_y_pick : (Str.ofString "y" == Str.ofString "pick") = false := by decide +kernel
@[simp] theorem net_y_tuple : (Str.ofString "y" == Str.ofString "tuple") = false := by decide +kernel
@[simp] theorem net_y_weigh : (Str.ofString "y" == Str.ofString "weigh") = false := by decide +kernel
@[simp] theorem net_y_list : (Str.ofString "y" == Str.ofString "list") = false := by decide +kernel
@[simp] theorem net_y_map : (Str.ofString "y" == Str.ofString "map") = false := by decide +kernel
@[simp] theorem net_y_keep : (Str.ofString "y" == Str.ofString "keep") = false := by decide +kernel
@[simp] theorem net_y_let : (Str.ofString "y" == Str.ofString "let") = false := by decide +kernel
@[simp] theorem net_y_grow : (Str.ofString "y" == Str.ofString "grow") = false := by decide +kernel
@[simp] theorem net_y_self : (Str.ofString "y" == Str.ofString "self") = false := by decide +kernel
@[simp] theorem net_y_const : (Str.ofString "y" == Str.ofString "const") = false := by decide +kernel
@[simp] theorem net_y_range : (Str.ofString "y" == Str.ofString "range") = false := by decide +kernel
@[simp] theorem net_y_shuffle : (Str.ofString "y" == Str.ofString "shuffle") = false := by decide +kernel
@[simp] theorem net_y_discard : (Str.ofString "y" == Str.ofString "discard") = false := by decide +kernel
@[simp] theorem net_y_x : (Str.ofString "y" == Str.ofString "x") = false := by decide +kernel
@[simp] theorem net_y_abc : (Str.ofString "y" == Str.ofString "abc") = false := by decide +kernel
@[simp] theorem net_abc_var : (Str.ofString "abc" == Str.ofString "var") = false := by decide +kernel
@[simp] theorem net_abc_upto : (Str.ofString "abc" == Str.ofString "upto") = false := by decide +kernel
@[simp] theorem net_abc_pick : (Str.ofString "abc" == Str.ofString "pick") = false := by decide +kernel
@[simp] theorem net_abc_tuple : (Str.ofString "abc" == Str.ofString "tuple") = false := by decide +kernel
@[simp] theorem net_abc_weigh : (Str.ofString "abc" == Str.ofString "weigh") = false := by decide +kernel
@[simp] theorem net_abc_list : (Str.ofString "abc" == Str.ofString "list") = false := by decide +kernel
@[simp] theorem net_abc_map : (Str.ofString "abc" == Str.ofString "map") = false := by decide +kernel
@[simp] theorem net_abc_keep : (Str.ofString "abc" == Str.ofString "keep") = false := by decide +kernel
@[simp] theorem net_abc_let : (Str.ofString "abc" == Str.ofString "let") = false := by decide +kernel
@[simp] theorem net_abc_grow : (Str.ofString "abc" == Str.ofString "grow") = false := by decide +kernel
@[simp] theorem net_abc_self : (Str.ofString "abc" == Str.ofString "self") = false := by decide +kernel
@[simp] theorem net_abc_const : (Str.ofString "abc" == Str.ofString "const") = false := by decide +kernel
@[simp] theorem net_abc_range : (Str.ofString "abc" == Str.ofString "range") = false := by decide +kernel
@[simp] theorem net_abc_shuffle : (Str.ofString "abc" == Str.ofString "shuffle") = false := by decide +kernel
@[simp] theorem net_abc_discard : (Str.ofString "abc" == Str.ofString "discard") = false := by decide +kernel
@[simp] theorem net_abc_x : (Str.ofString "abc" == Str.ofString "x") = false := by decide +kernel
@[simp] theorem net_abc_y : (Str.ofString "abc" == Str.ofString "y") = false := by decide +kernel
end Mx
set_option Elab.async false
set_option linter.all false
set_option maxRecDepth 100000
set_option maxHeartbeats 8000000
namespace Mx
open PySem L2
/-! terms as trees -/
inductive Tm where
  | lf (h : Str) (r : List D)
  | self
  | nam (u : Bool) (x : Str)
  | un (h : Str) (r : List D) (t : Tm)
  | lt (x : Str) (a b : Tm)
  | gr (n : Int) (a b : Tm)
  | pk (u : Bool) (l : List Tm)
  | wg (ws : List Int) (l : List Tm)
def nmH : Bool → Str
  | true => "var"
  | false => "upto"
def pkH : Bool → Str
  | true => "pick"
  | false => "tuple"
def wds : List Int → List D → List D
  | w :: ws, d :: l => .tup [.int w, d] :: wds ws l
  | _, _ => []
mutual
def Tm.d : Tm → D
  | .lf h r => .tup (.str h :: r)
  | .self => .tup [.str "self"]
  | .nam u x => .tup [.str (nmH u), .str x]
  | .un h r t => .tup (.str h :: (r ++ [t.d]))
  | .lt x a b => .tup [.str "let", .str x, a.d, b.d]
  | .gr n a b => .tup [.str "grow", .int n, a.d, b.d]
  | .pk u l => .tup [.str (pkH u), .tup (Tm.ds l)]
  | .wg ws l => .tup [.str "weigh", .tup (wds ws (Tm.ds l))]
def Tm.ds : List Tm → List D
  | [] => []
  | t :: l => t.d :: Tm.ds l
end
theorem tds_map : ∀ l : List Tm, Tm.ds l = l.map Tm.d
  | [] => by rw [Tm.ds]; rfl
  | v :: l => by rw [Tm.ds, tds_map l]; rfl
def Tm.parts : Tm → List Tm
  | .un _ _ t => [t]
  | .lt _ a b => [a, b]
  | .gr _ a b => [a, b]
  | .pk _ l => l
  | .wg _ l => l
  | _ => []
def Tm.mk : Tm → List Tm → Tm
  | .un h r _, [t] => .un h r t
  | .lt x _ _, [a, b] => .lt x a b
  | .gr n _ _, [a, b] => .gr n a b
  | .pk u _, l => .pk u l
  | .wg ws _, l => .wg ws l
  | t, _ => t
mutual
def Tm.free : Tm → List Str
  | .lf _ _ => []
  | .self => []
  | .nam _ x => [x]
  | .un _ _ t => t.free
  | .lt x a b => a.free ++ b.free.filter (· != x)
  | .gr _ a b => a.free ++ b.free
  | .pk _ l => Tm.frees l
  | .wg _ l => Tm.frees l
def Tm.frees : List Tm → List Str
  | [] => []
  | t :: l => t.free ++ Tm.frees l
end
theorem frees_map : ∀ l : List Tm, Tm.frees l = (l.map Tm.free).flatten
  | [] => by rw [Tm.frees]; rfl
  | v :: l => by rw [Tm.frees, frees_map l]; rfl
/-- a place of a variable, with a value put in -/
def rpl (u : Bool) (v : D) (z : Option Int) : Tm := match u, z with
  | true, _ => .lf "const" [v]
  | false, some i => .lf "range" [.int 0, .int i]
  | false, none => .lf "const" [.int 0]
mutual
def Tm.sub (x : Str) (v : D) (z : Option Int) : Tm → Tm
  | .lf h r => .lf h r
  | .self => .self
  | .nam u y => if y == x then rpl u v z else .nam u y
  | .un h r t => .un h r (t.sub x v z)
  | .lt y a b => if y == x then .lt y (a.sub x v z) b else .lt y (a.sub x v z) (b.sub x v z)
  | .gr n a b => .gr n (a.sub x v z) (b.sub x v z)
  | .pk u l => .pk u (Tm.subs x v z l)
  | .wg ws l => .wg ws (Tm.subs x v z l)
def Tm.subs (x : Str) (v : D) (z : Option Int) : List Tm → List Tm
  | [] => []
  | t :: l => t.sub x v z :: Tm.subs x v z l
end
theorem subs_map {x : Str} {v : D} {z : Option Int} : ∀ l : List Tm, Tm.subs x v z l = l.map (Tm.sub x v z)
  | [] => by rw [Tm.subs]; rfl
  | t :: l => by rw [Tm.subs, subs_map l]; rfl
mutual
def Tm.wi (s : Tm) : Tm → Tm
  | .lf h r => .lf h r
  | .self => s
  | .nam u y => .nam u y
  | .un h r t => .un h r (Tm.wi s t)
  | .lt y a b => .lt y (Tm.wi s a) (Tm.wi s b)
  | .gr n a b => .gr n (Tm.wi s a) b
  | .pk u l => .pk u (Tm.wis s l)
  | .wg ws l => .wg ws (Tm.wis s l)
def Tm.wis (s : Tm) : List Tm → List Tm
  | [] => []
  | t :: l => Tm.wi s t :: Tm.wis s l
end
theorem wis_map {s : Tm} : ∀ l : List Tm, Tm.wis s l = l.map (Tm.wi s)
  | [] => by rw [Tm.wis]; rfl
  | t :: l => by rw [Tm.wis, wis_map l]; rfl
def LH : List Str := ["const", "range", "shuffle", "discard"]
def UH : List Str := ["list", "map", "keep"]
def XH : List Str := ["x", "y", "abc"]
/-- immutable data of depth n and weight s at most -/
structure Im (n s : Nat) (d : D) : Prop where
  ex : ∃ p : PyData, (∀ f, pdW f d = some p) ∧ PyData.canLay0 p = true ∧ p.depth ≤ n ∧ p.intsShort 13 = true ∧ p.showable = true ∧ p.weight ≤ s
/-- of depth n at most, every part as it should be -/
def tok : Nat → Tm → Prop
  | _, .lf h r => h ∈ LH ∧ r.length ≤ 2 ∧ ∀ d ∈ r, Im 8 200 d
  | _, .self => True
  | _, .nam _ x => x ∈ XH
  | n + 1, .un h r t => h ∈ UH ∧ r.length ≤ 2 ∧ (∀ d ∈ r, Im 8 200 d) ∧ tok n t
  | n + 1, .lt x a b => x ∈ XH ∧ tok n a ∧ tok n b
  | n + 1, .gr k a b => k.natAbs ≤ 1000 ∧ tok n a ∧ tok n b
  | n + 1, .pk _ l => l.length ≤ 4 ∧ ∀ t ∈ l, tok n t
  | n + 1, .wg ws l => ws.length = l.length ∧ l.length ≤ 4 ∧ (∀ w ∈ ws, w.natAbs ≤ 1000) ∧ ∀ t ∈ l, tok n t
  | 0, _ => False
theorem tok_mono : ∀ (n : Nat) (t : Tm), tok n t → tok (n + 1) t := by
  intro n
  induction n with
  | zero => intro t h; cases t with
    | lf _ _ => exact h
    | self => exact h
    | nam _ _ => exact h
    | _ => exact h.elim
  | succ n ih => intro t h; cases t with
    | lf _ _ => exact h
    | self => exact h
    | nam _ _ => exact h
    | un hd r t => exact ⟨h.1, h.2.1, h.2.2.1, ih _ h.2.2.2⟩
    | lt x a b => exact ⟨h.1, ih _ h.2.1, ih _ h.2.2⟩
    | gr k a b => exact ⟨h.1, ih _ h.2.1, ih _ h.2.2⟩
    | pk _ l => exact ⟨h.1, fun t ht => ih t (h.2 t ht)⟩
    | wg ws l => exact ⟨h.1, h.2.1, h.2.2.1, fun t ht => ih t (h.2.2.2 t ht)⟩
theorem tok_parts {n : Nat} {t u : Tm} (h : tok (n + 1) t) (hu : u ∈ t.parts) : tok n u := by
  cases t with
  | un hd r t => simp [Tm.parts] at hu; subst hu; exact h.2.2.2
  | lt x a b => simp [Tm.parts] at hu; rcases hu with rfl | rfl; exact h.2.1; exact h.2.2
  | gr x a b => simp [Tm.parts] at hu; rcases hu with rfl | rfl; exact h.2.1; exact h.2.2
  | pk _ l => exact h.2 u hu
  | wg _ l => exact h.2.2.2 u hu
  | _ => simp [Tm.parts] at hu
theorem tok_parts0 {t : Tm} (h : tok 0 t) : t.parts = [] := by
  cases t with
  | lf _ _ => rfl
  | self => rfl
  | nam _ _ => rfl
  | _ => exact h.elim
theorem tok_len {n : Nat} {t : Tm} (h : tok n t) : t.parts.length ≤ 4 := by
  cases n with
  | zero => rw [tok_parts0 h]; simp
  | succ n => cases t with
    | pk _ l => exact h.1
    | wg _ l => exact h.2.1
    | _ => simp [Tm.parts]
theorem mem_LH {h : Str} (m : h ∈ LH) : h = "const" ∨ h = "range" ∨ h = "shuffle" ∨ h = "discard" := by simpa [LH] using m
theorem mem_UH {h : Str} (m : h ∈ UH) : h = "list" ∨ h = "map" ∨ h = "keep" := by simpa [UH] using m
theorem mem_XH {h : Str} (m : h ∈ XH) : h = "x" ∨ h = "y" ∨ h = "abc" := by simpa [XH] using m
theorem ok_XH {h : Str} (m : h ∈ XH) : PyData.strOk h = true := by
  rcases mem_XH m with rfl | rfl | rfl <;> simp
theorem cut_drop (l m : List D) : cutD (l ++ m) (some (l.length : Int)) none = m := by
  unfold cutD
  rw [HT.sIx_none, HT.sIx_nat]
  have e : min l.length (l ++ m).length = l.length := by simp
  rw [e]
  simp
theorem cut_take (l m : List D) : cutD (l ++ m) none (some (l.length : Int)) = l := by
  unfold cutD
  rw [HT.sIx_none, HT.sIx_nat]
  have e : min l.length (l ++ m).length = l.length := by simp
  rw [e]
  simp
theorem wds_len : ∀ (ws : List Int) (l : List D), ws.length = l.length → (wds ws l).length = l.length
  | [], [], _ => rfl
  | w :: ws, d :: l, h => by rw [wds, List.length_cons, List.length_cons, wds_len ws l (by simpa using h)]
  | [], _ :: _, h => by cases h
  | _ :: _, [], h => by cases h
theorem wds_get : ∀ (ws : List Int) (l : List D) (i : Nat) (d : D), (wds ws l)[i]? = some d → ∃ w e, ws[i]? = some w ∧ l[i]? = some e ∧ d = .tup [.int w, e]
  | w :: ws, d :: l, 0, _, h => by rw [wds] at h; cases h; exact ⟨w, d, rfl, rfl, rfl⟩
  | w :: ws, d :: l, i + 1, e, h => by
    rw [wds, List.getElem?_cons_succ] at h
    exact wds_get ws l i e h
  | [], _, _, _, h => by simp [wds] at h
  | _ :: _, [], _, _, h => by simp [wds] at h
end Mx
set_option Elab.async false
set_option linter.all false
set_option maxRecDepth 100000
set_option maxHeartbeats 8000000
namespace Mx
open PySem L2
def g_parts_of_3 : Sms := .cons (.ret (.bi .list (.cons (.slc (.var 0) (.cons (.bin .sub (.bi .len (.cons (.var 0) .nil)) (.dg [("list", (.int 1)), ("map", (.int 1)), ("keep", (.int 1)), ("let", (.int 2)), ("grow", (.int 2))] (.cons (.var 1) (.cons (.cst (.int 0)) .nil)))) .nil) .nil) .nil))) .nil
def g_parts_of_2 : Sms := .cons (.iff (.cmp .eq (.var 1) (.cst (.str "weigh")))
  (.cons (.ret (.lc (.idx (.var 2) (.cst (.int 1))) [2] (.nm 2) .val (.cons (.idx (.var 0) (.cst (.int 1))) .nil) .nil)) .nil)
  .nil) (g_parts_of_3)
def g_parts_of_1 : Sms := .cons (.iff (.cmp .isin (.var 1) (.tup (.cons (.cst (.str "pick")) (.cons (.cst (.str "tuple")) .nil))))
  (.cons (.ret (.bi .list (.cons (.idx (.var 0) (.cst (.int 1))) .nil))) .nil)
  .nil) (g_parts_of_2)
def g_parts_of : Sms := .cons (.asg (.nm 1) (.idx (.var 0) (.cst (.int 0)))) (g_parts_of_1)
def g_rebuilt_3 : Sms := .cons (.ret (.bin .add (.slc (.var 0) .nil (.cons (.bin .sub (.bi .len (.cons (.var 0) .nil)) (.bi .len (.cons (.var 1) .nil))) .nil)) (.bi .tuple (.cons (.var 1) .nil)))) .nil
def g_rebuilt_2 : Sms := .cons (.iff (.cmp .eq (.var 2) (.cst (.str "weigh")))
  (.cons (.ret (.tup (.cons (.var 2) (.cons (.bi .tuple (.cons (.lc (.tup (.cons (.idx (.var 3) (.cst (.int 0))) (.cons (.var 4) .nil))) [3, 4] (.ns [3, 4]) .zip (.cons (.idx (.var 0) (.cst (.int 1))) (.cons (.var 1) .nil)) .nil) .nil)) .nil)))) .nil)
  .nil) (g_rebuilt_3)
def g_rebuilt_1 : Sms := .cons (.iff (.cmp .isin (.var 2) (.tup (.cons (.cst (.str "pick")) (.cons (.cst (.str "tuple")) .nil))))
  (.cons (.ret (.tup (.cons (.var 2) (.cons (.bi .tuple (.cons (.var 1) .nil)) .nil)))) .nil)
  .nil) (g_rebuilt_2)
def g_rebuilt : Sms := .cons (.asg (.nm 2) (.idx (.var 0) (.cst (.int 0)))) (g_rebuilt_1)
def g_uses_4 (iP iU : Nat) : Sms := .cons (.ret (.cst (.bl false))) .nil
def g_uses_3 (iP iU : Nat) : Sms := .cons (.for (.nm 3) .val (.cons (.var 2) .nil)
  (.cons (.iff (.cal iU (.cons (.var 3) (.cons (.var 1) .nil)))
   (.cons (.ret (.cst (.bl true))) .nil)
   .nil) .nil)) (g_uses_4 iP iU)
def g_uses_2 (iP iU : Nat) : Sms := .cons (.iff (.an (.cmp .eq (.idx (.var 0) (.cst (.int 0))) (.cst (.str "let"))) (.cmp .eq (.idx (.var 0) (.cst (.int 1))) (.var 1)))
  (.cons (.asg (.nm 2) (.slc (.var 2) .nil (.cons (.cst (.int 1)) .nil))) .nil)
  .nil) (g_uses_3 iP iU)
def g_uses_1 (iP iU : Nat) : Sms := .cons (.asg (.nm 2) (.cal iP (.cons (.var 0) .nil))) (g_uses_2 iP iU)
def g_uses (iP iU : Nat) : Sms := .cons (.iff (.cmp .isin (.idx (.var 0) (.cst (.int 0))) (.tup (.cons (.cst (.str "var")) (.cons (.cst (.str "upto")) .nil))))
  (.cons (.ret (.cmp .eq (.idx (.var 0) (.cst (.int 1))) (.var 1))) .nil)
  .nil) (g_uses_1 iP iU)
def g_is_closed_3 (iP iC : Nat) : Sms := .cons (.ret (.cst (.bl true))) .nil
def g_is_closed_2 (iP iC : Nat) : Sms := .cons (.for (.nm 2) .val (.cons (.cal iP (.cons (.var 0) .nil)) .nil)
  (.cons (.iff (.nt (.cal iC (.cons (.var 2) (.cons (.var 1) .nil))))
   (.cons (.ret (.cst (.bl false))) .nil)
   .nil) .nil)) (g_is_closed_3 iP iC)
def g_is_closed_1 (iP iC : Nat) : Sms := .cons (.iff (.cmp .eq (.idx (.var 0) (.cst (.int 0))) (.cst (.str "let")))
  (.cons (.ret (.an (.cal iC (.cons (.idx (.var 0) (.cst (.int 2))) (.cons (.var 1) .nil))) (.cal iC (.cons (.idx (.var 0) (.cst (.int 3))) (.cons (.tup (.star (.var 1) (.cons (.idx (.var 0) (.cst (.int 1))) .nil))) .nil))))) .nil)
  .nil) (g_is_closed_2 iP iC)
def g_is_closed (iP iC : Nat) : Sms := .cons (.iff (.cmp .isin (.idx (.var 0) (.cst (.int 0))) (.tup (.cons (.cst (.str "var")) (.cons (.cst (.str "upto")) .nil))))
  (.cons (.ret (.cmp .isin (.idx (.var 0) (.cst (.int 1))) (.var 1))) .nil)
  .nil) (g_is_closed_1 iP iC)
def g_is_within (iI : Nat) : Sms :=
 (.cons (.ret (.an (.cal iI (.cons (.var 0) .nil)) (.chn .le .le (.var 1) (.var 0) (.var 2)))) .nil)
def g_replaced (iW gM : Nat) : Sms :=
 (.cons (.iff (.cmp .eq (.idx (.var 0) (.cst (.int 0))) (.cst (.str "var")))
  (.cons (.ret (.tup (.cons (.cst (.str "const")) (.cons (.var 1) .nil)))) .nil)
  .nil) <|
 (.cons (.iff (.cal iW (.cons (.var 1) (.cons (.cst (.int 0)) (.cons (.glb gM) .nil))))
  (.cons (.ret (.tup (.cons (.cst (.str "range")) (.cons (.cst (.int 0)) (.cons (.var 1) .nil))))) .nil)
  .nil) <|
 (.cons (.ret (.tup (.cons (.cst (.str "const")) (.cons (.cst (.int 0)) .nil)))) .nil)))
def g_substitute_5 (iP iB iR iS : Nat) : Sms := .cons (.ret (.cal iB (.cons (.var 0) (.cons (.var 4) .nil)))) .nil
def g_substitute_4 (iP iB iR iS : Nat) : Sms := .cons (.for (.nm 5) .val (.cons (.var 3) .nil)
  (.cons (.expr (.mth .append (.var 4) (.cons (.cal iS (.cons (.var 5) (.cons (.var 1) (.cons (.var 2) .nil)))) .nil))) .nil)) (g_substitute_5 iP iB iR iS)
def g_substitute_3 (iP iB iR iS : Nat) : Sms := .cons (.asg (.nm 4) (.lst .nil)) (g_substitute_4 iP iB iR iS)
def g_substitute_2 (iP iB iR iS : Nat) : Sms := .cons (.iff (.an (.cmp .eq (.idx (.var 0) (.cst (.int 0))) (.cst (.str "let"))) (.cmp .eq (.idx (.var 0) (.cst (.int 1))) (.var 1)))
  (.cons (.ret (.cal iB (.cons (.var 0) (.cons (.lst (.cons (.cal iS (.cons (.idx (.var 3) (.cst (.int 0))) (.cons (.var 1) (.cons (.var 2) .nil)))) (.cons (.idx (.var 3) (.cst (.int 1))) .nil))) .nil)))) .nil)
  .nil) (g_substitute_3 iP iB iR iS)
def g_substitute_1 (iP iB iR iS : Nat) : Sms := .cons (.asg (.nm 3) (.cal iP (.cons (.var 0) .nil))) (g_substitute_2 iP iB iR iS)
def g_substitute (iP iB iR iS : Nat) : Sms := .cons (.iff (.cmp .isin (.idx (.var 0) (.cst (.int 0))) (.tup (.cons (.cst (.str "var")) (.cons (.cst (.str "upto")) .nil))))
  (.cons (.ret (.ite (.cmp .eq (.idx (.var 0) (.cst (.int 1))) (.var 1)) (.cal iR (.cons (.var 0) (.cons (.var 2) .nil))) (.var 0))) .nil)
  .nil) (g_substitute_1 iP iB iR iS)
def g_unfolded (iX : Nat) : Sms :=
 (.cons (.asg (.ns [1, 2, 3, 4]) (.var 0)) <|
 (.cons (.iff (.cmp .eq (.var 2) (.cst (.int 0)))
  (.cons (.ret (.var 3)) .nil)
  .nil) <|
 (.cons (.ret (.cal iX (.cons (.var 4) (.cons (.tup (.cons (.cst (.str "grow")) (.cons (.bin .sub (.var 2) (.cst (.int 1))) (.cons (.var 3) (.cons (.var 4) .nil))))) .nil)))) .nil)))
def g__with_self_5 (iP iB iX : Nat) : Sms := .cons (.ret (.cal iB (.cons (.var 0) (.cons (.var 3) .nil)))) .nil
def g__with_self_4 (iP iB iX : Nat) : Sms := .cons (.for (.nm 4) .val (.cons (.var 2) .nil)
  (.cons (.expr (.mth .append (.var 3) (.cons (.cal iX (.cons (.var 4) (.cons (.var 1) .nil))) .nil))) .nil)) (g__with_self_5 iP iB iX)
def g__with_self_3 (iP iB iX : Nat) : Sms := .cons (.asg (.nm 3) (.lst .nil)) (g__with_self_4 iP iB iX)
def g__with_self_2 (iP iB iX : Nat) : Sms := .cons (.iff (.cmp .eq (.idx (.var 0) (.cst (.int 0))) (.cst (.str "grow")))
  (.cons (.ret (.cal iB (.cons (.var 0) (.cons (.lst (.cons (.cal iX (.cons (.idx (.var 2) (.cst (.int 0))) (.cons (.var 1) .nil))) (.cons (.idx (.var 2) (.cst (.int 1))) .nil))) .nil)))) .nil)
  .nil) (g__with_self_3 iP iB iX)
def g__with_self_1 (iP iB iX : Nat) : Sms := .cons (.asg (.nm 2) (.cal iP (.cons (.var 0) .nil))) (g__with_self_2 iP iB iX)
def g__with_self (iP iB iX : Nat) : Sms := .cons (.iff (.cmp .eq (.idx (.var 0) (.cst (.int 0))) (.cst (.str "self")))
  (.cons (.ret (.var 1)) .nil)
  .nil) (g__with_self_1 iP iB iX)
section
variable {Fs : List Fn} {G : List D} {w k n iP iB iU iC iI iW iR iS iX gM : Nat}
@[simp] theorem exs_one {R : Nat → List D → Sto → Mo D} {w : Nat} {a : Sm} {ρ : Rho} {S : Sto} {Z : Fl → Rho → Sto → Prop} {E : Exn → Sto → Prop} : wpS (exs R G w (.cons a .nil) ρ S) Z E = wpS (ex R G w a ρ S) Z E := by
  rw [exs_cons]
  refine wpSE fun f ρ S => ?_
  cases f with
  | nx => simp only [aft_nx, kon_go, exs_nil]
  | _ => rfl
@[simp] theorem atI_2 {a b c : D} {l : List D} : atI (a :: b :: c :: l) 2 = some c := by
  have h : (2 : Int) < ((l.length + 1 + 1 + 1 : Nat) : Int) := by omega
  simp only [atI, ixN, List.length_cons, h]
  rfl
@[simp] theorem atI_3 {a b c d : D} {l : List D} : atI (a :: b :: c :: d :: l) 3 = some d := by
  have h : (3 : Int) < ((l.length + 1 + 1 + 1 + 1 : Nat) : Int) := by omega
  simp only [atI, ixN, List.length_cons, h]
  rfl
/-- a new list behind what stood -/
structure NewL (S S' : Sto) (d : D) (l : List D) : Prop where
  ext : Ext S S'
  ex : ∃ r, d = .ref r ∧ S.length ≤ r ∧ S'[r]? = some (.lst l)
theorem NewL.app {S : Sto} {l : List D} : NewL S (S ++ [.lst l]) (.ref S.length) l := ⟨Ext.app _ _, _, rfl, Nat.le_refl _, by simp⟩
theorem parts_leaf {S S' : Sto} {x : D} {r : List D} (hS : S' = S ++ [.lst (cutD (x :: r) (some (((r.length + 1 : Nat) : Int) - 0)) none)]) : NewL S S' (.ref S.length) [] := by
  subst hS
  have e : cutD (x :: r) (some (((r.length + 1 : Nat) : Int) - 0)) none = [] := by
    have := cut_drop (x :: r) []
    simpa using this
  rw [e]
  exact NewL.app
theorem parts_spec (hF : Fs[iP]? = some ⟨1, 3, g_parts_of⟩) {t : Tm} (ht : tok n t) (S : Sto) : wp (run Fs G w (k + 1) iP [t.d] S) (fun d S' => NewL S S' d (t.parts.map Tm.d)) nE := by
  refine wp_run hF rfl ?_
  cases t with
  | lf h r =>
    cases n <;>
    · rcases mem_LH ht.1 with rfl | rfl | rfl | rfl <;>
      · simp [g_parts_of, g_parts_of_1, g_parts_of_2, g_parts_of_3, enter, Tm.d, LIM, lookup_cons']
        exact parts_leaf rfl
  | self =>
    simp [g_parts_of, g_parts_of_1, g_parts_of_2, g_parts_of_3, enter, Tm.d, LIM, lookup_cons']
    exact parts_leaf (x := .str "self") (r := []) rfl
  | nam u x =>
    cases u <;>
    · simp [g_parts_of, g_parts_of_1, g_parts_of_2, g_parts_of_3, enter, Tm.d, nmH, LIM, lookup_cons']
      exact parts_leaf (r := [.str x]) rfl
  | un h r t =>
    cases n with
    | zero => exact ht.elim
    | succ n =>
      have c := cut_drop (.str h :: r) [t.d]
      simp at c
      rcases mem_UH ht.1 with rfl | rfl | rfl <;>
      · simp [g_parts_of, g_parts_of_1, g_parts_of_2, g_parts_of_3, enter, Tm.d, LIM, lookup_cons', Tm.parts]
        rw [c]
        exact NewL.app
  | lt x a b =>
    have c := cut_drop [.str "let", .str x] [a.d, b.d]
    simp at c
    simp [g_parts_of, g_parts_of_1, g_parts_of_2, g_parts_of_3, enter, Tm.d, LIM, lookup_cons', Tm.parts]
    rw [c]
    exact NewL.app
  | gr x a b =>
    have c := cut_drop [.str "grow", .int x] [a.d, b.d]
    simp at c
    simp [g_parts_of, g_parts_of_1, g_parts_of_2, g_parts_of_3, enter, Tm.d, LIM, lookup_cons', Tm.parts]
    rw [c]
    exact NewL.app
  | pk u l =>
    cases u <;>
    · simp [g_parts_of, g_parts_of_1, enter, Tm.d, pkH, LIM, Tm.parts, tds_map]
      exact NewL.app
  | wg ws l =>
    cases n with
    | zero => exact ht.elim
    | succ n =>
      simp [g_parts_of, g_parts_of_1, g_parts_of_2, enter, Tm.d, LIM, Tm.parts, tds_map, wipeD]
      have wl := wds_len ws (l.map Tm.d) (by simpa using ht.1)
      refine lc_ix (L := wds ws (l.map Tm.d)) (l.map Tm.d) S wl.symm (by rw [wl]; have := ht.2.1; simp [LIM]; omega) (fun i S1 _ hx => nx_items) (fun i d e S1 hd he hx => ?_) (fun S' hx hg => ⟨hx, _, rfl, Nat.le_refl _, hg⟩) (Nat.le_refl _)
      obtain ⟨a, b, h1, h2, rfl⟩ := wds_get _ _ _ _ hd
      refine ⟨_, rfl, ?_⟩
      rw [he] at h2
      cases h2
      simp
      exact Ext.refl _
end
end Mx
set_option Elab.async false
set_option linter.all false
set_option maxRecDepth 100000
set_option maxHeartbeats 8000000
namespace Mx
open PySem L2
section
variable {Fs : List Fn} {G : List D} {w k n iP iB iU iC iI iW iR iS iX gM : Nat}
theorem cut_take' (l m : List D) (j : Int) (h : j = l.length) : cutD (l ++ m) none (some j) = l := by subst h; exact cut_take l m
theorem cut_drop' (l m : List D) (j : Int) (h : j = l.length) : cutD (l ++ m) (some j) none = m := by subst h; exact cut_drop l m
theorem Ext.lst {S S1 : Sto} (h : Ext S S1) {r : Nat} {l : List D} (e : lstOf S r = some l) : lstOf S1 r = some l := by
  have lt : r < S.length := by
    unfold lstOf at e
    split at e
    · rename_i q; exact lt_of_get q
    · rename_i q; exact lt_of_get q
    · cases e
  unfold lstOf at e ⊢
  rw [h.get r lt]
  exact e
theorem cut_all (l : List D) (j : Int) (h : j = l.length) : cutD l none (some j) = l := by
  have := cut_take' l [] j h
  simpa using this
theorem rebuilt_spec (hF : Fs[iB]? = some ⟨2, 5, g_rebuilt⟩) {t : Tm} (ht : tok n t) {ls : List Tm} (hl : ls.length = t.parts.length) {S : Sto} {r : Nat} (hr : lstOf S r = some (ls.map Tm.d)) :
    wp (run Fs G w (k + 1) iB [t.d, .ref r] S) (fun d S' => Ext S S' ∧ d = (t.mk ls).d) nE := by
  refine wp_run hF rfl ?_
  have l4 := tok_len ht
  have leaf : ∀ (x : D) (q : List D), q.length ≤ 2 → ls = [] → opt (op2 .add (.tup (cutD (x :: q) none (some ((q.length : Int) + 1 - 0)))) (.tup []) S) fun p => Ext S p.2 ∧ p.1 = .tup (x :: q) := by
    intro x q hq _
    have c := cut_all (x :: q) ((q.length : Int) + 1 - 0) (by simp)
    rw [c]
    simp [LIM]
    exact ⟨by omega, Ext.refl _⟩
  cases t with
  | lf h q =>
    have e : ls = [] := by cases ls with | nil => rfl | cons _ _ => simp [Tm.parts] at hl
    subst e
    have lq : q.length ≤ 2 := by cases n <;> exact ht.2.1
    cases n <;>
    · rcases mem_LH ht.1 with rfl | rfl | rfl | rfl <;>
      · simp [g_rebuilt, g_rebuilt_1, g_rebuilt_2, g_rebuilt_3, enter, Tm.d, LIM, hr, Tm.mk]
        have z := fun x => leaf x q lq rfl
        simp [LIM] at z
        exact z _
  | self =>
    have e : ls = [] := by cases ls with | nil => rfl | cons _ _ => simp [Tm.parts] at hl
    subst e
    simp [g_rebuilt, g_rebuilt_1, g_rebuilt_2, g_rebuilt_3, enter, Tm.d, LIM, hr, Tm.mk]
    have z := leaf (.str "self") [] (by simp) rfl
    simp [LIM] at z
    exact z
  | nam u x =>
    have e : ls = [] := by cases ls with | nil => rfl | cons _ _ => simp [Tm.parts] at hl
    subst e
    cases u <;>
    · simp [g_rebuilt, g_rebuilt_1, g_rebuilt_2, g_rebuilt_3, enter, Tm.d, LIM, hr, Tm.mk, nmH]
      have z := fun y => leaf y [.str x] (by simp) rfl
      simp [LIM] at z
      exact z _
  | un h q t =>
    cases n with
    | zero => exact ht.elim
    | succ n =>
      obtain ⟨u, rfl⟩ : ∃ u, ls = [u] := by
        match ls, hl with
        | [u], _ => exact ⟨u, rfl⟩
        | [], h => simp [Tm.parts] at h
        | _ :: _ :: _, h => simp [Tm.parts] at h
      have lq := ht.2.1
      have c := fun x => cut_take' (.str x :: q) [t.d] (((q.length : Int) + 1 + 1) - 1) (by simp)
      simp at c
      rcases mem_UH ht.1 with rfl | rfl | rfl <;>
      · simp [g_rebuilt, g_rebuilt_1, g_rebuilt_2, g_rebuilt_3, enter, Tm.d, LIM, hr, Tm.mk, c]
        exact ⟨by omega, Ext.refl _⟩
  | lt x a b =>
    obtain ⟨u, v, rfl⟩ : ∃ u v, ls = [u, v] := by
      match ls, hl with
      | [u, v], _ => exact ⟨u, v, rfl⟩
      | [], h => simp [Tm.parts] at h
      | [_], h => simp [Tm.parts] at h
      | _ :: _ :: _ :: _, h => simp [Tm.parts] at h
    have c := cut_take' [.str "let", .str x] [a.d, b.d] 2 rfl
    simp at c
    simp [g_rebuilt, g_rebuilt_1, g_rebuilt_2, g_rebuilt_3, enter, Tm.d, LIM, hr, Tm.mk, c]
    exact Ext.refl _
  | gr x a b =>
    obtain ⟨u, v, rfl⟩ : ∃ u v, ls = [u, v] := by
      match ls, hl with
      | [u, v], _ => exact ⟨u, v, rfl⟩
      | [], h => simp [Tm.parts] at h
      | [_], h => simp [Tm.parts] at h
      | _ :: _ :: _ :: _, h => simp [Tm.parts] at h
    have c := cut_take' [.str "grow", .int x] [a.d, b.d] 2 rfl
    simp at c
    simp [g_rebuilt, g_rebuilt_1, g_rebuilt_2, g_rebuilt_3, enter, Tm.d, LIM, hr, Tm.mk, c]
    exact Ext.refl _
  | pk u l =>
    cases u <;>
    · simp [g_rebuilt, g_rebuilt_1, enter, Tm.d, pkH, LIM, hr, Tm.mk, tds_map]
      exact Ext.refl _
  | wg ws l =>
    cases n with
    | zero => exact ht.elim
    | succ n =>
      have wl := wds_len ws (l.map Tm.d) (by simpa using ht.1)
      have wl2 := wds_len ws (ls.map Tm.d) (by rw [List.length_map, hl]; exact ht.1)
      have ll : ls.length = l.length := hl
      simp [g_rebuilt, g_rebuilt_1, g_rebuilt_2, enter, Tm.d, LIM, hr, Tm.mk, wipeD, tds_map]
      have gs : ∀ S1, Ext S S1 → seqOf S1 (.ref r) = some (ls.map Tm.d) := fun S1 hx => hx.lst hr
      have gt : ∀ S1, seqOf S1 (.tup (wds ws (l.map Tm.d))) = some (wds ws (l.map Tm.d)) := fun _ => rfl
      have zl : (zipD (wds ws (l.map Tm.d)) (ls.map Tm.d)).length = l.length := by simp [zipD, wl, ll]
      have hl4 := ht.2.1
      refine lc_ix (L := zipD (wds ws (l.map Tm.d)) (ls.map Tm.d)) (wds ws (ls.map Tm.d)) S (by rw [zl, wl2]; simp [ll]) (by rw [zl]; simp [LIM]; omega) (fun i S1 hi hx => nx_zip (gt S1) (gs S1 hx) (by rw [zl] at hi; rw [wl]; simp [ll]; omega)) (fun i d e S1 hd he hx => ?_) (fun S' hx hg => ?_) ?_
      · obtain ⟨p, q, h1, h2, rfl⟩ : ∃ p q, (wds ws (l.map Tm.d))[i]? = some p ∧ (ls.map Tm.d)[i]? = some q ∧ d = .tup [p, q] := by
          simp only [zipD, List.getElem?_zipWith] at hd
          split at hd
          · rename_i p q h1 h2
            exact ⟨p, q, h1, h2, (Option.some.inj hd).symm⟩
          · cases hd
        obtain ⟨wi, p', h3, h4, rfl⟩ := wds_get _ _ _ _ h1
        obtain ⟨wi', q', h5, h6, rfl⟩ := wds_get _ _ _ _ he
        rw [h2] at h6
        cases h6
        rw [h3] at h5
        cases h5
        refine ⟨_, rfl, ?_⟩
        simp [LIM]
        exact Ext.refl _
      · simp [lst_lst hg]
        exact hx
      · simp only [lenI, gt, gs S (Ext.refl _), wl]
        simp [zl, ll]
end
end Mx
set_option Elab.async false
set_option linter.all false
set_option maxRecDepth 100000
set_option maxHeartbeats 8000000
namespace Mx
open PySem L2
section
variable {Fs : List Fn} {G : List D} {w k n iP iB iU iC iI iW iR iS iX gM : Nat}
/-- an integer from 0 to 63 -/
def zOf : Vl → Option Int
  | .int i => if 0 ≤ i ∧ i ≤ 63 then some i else none
  | _ => none
theorem xh_eq {S : Sto} {a b : Str} (ha : a ∈ XH) (hb : b ∈ XH) : cm2 .eq (.str a) (.str b) S = some (a == b) := rfl
theorem within_spec (hW : Fs[iW]? = some ⟨3, 3, g_is_within iI⟩) (hI : Fs[iI]? = some ⟨1, 1, b_isint⟩) (v : Vl) (S : Sto) (a b : Int) :
    wp (run Fs G w (k + 2) iW [v.d, .int a, .int b] S) (fun d S' => S' = S ∧ d = .bl (match v with | .int i => decide (a ≤ i ∧ i ≤ b) | _ => false)) nE := by
  refine wp_run hW rfl ?_
  simp [g_is_within, enter]
  refine wp_use (isint_spec hI (by cases v <;> (simp [Vl.d]; trivial)) (k := k)) ?_
  rintro y S1 ⟨rfl, rfl⟩
  cases v with
  | tup l => simp [d_tup, isI]
  | int i =>
    simp [d_int, isI]
    by_cases h : a ≤ i
    · simp [h]
    · simp [h]
structure SubFs (Fs : List Fn) (G : List D) (iP iB iR iS iW iI gM : Nat) : Prop where
  S : Fs[iS]? = some ⟨3, 6, g_substitute iP iB iR iS⟩
  P : Fs[iP]? = some ⟨1, 3, g_parts_of⟩
  B : Fs[iB]? = some ⟨2, 5, g_rebuilt⟩
  R : Fs[iR]? = some ⟨2, 2, g_replaced iW gM⟩
  W : Fs[iW]? = some ⟨3, 3, g_is_within iI⟩
  I : Fs[iI]? = some ⟨1, 1, b_isint⟩
  gM : G[gM]? = some (.int 63)
theorem replaced_spec (h : SubFs Fs G iP iB iR iS iW iI gM) (u : Bool) (x : Str) (v : Vl) (S : Sto) :
    wp (run Fs G w (k + 3) iR [(Tm.nam u x).d, v.d] S) (fun d S' => S' = S ∧ d = (rpl u v.d (zOf v)).d) nE := by
  refine wp_run h.R rfl ?_
  cases u with
  | true => simp [g_replaced, enter, Tm.d, nmH, rpl, LIM]
  | false =>
    simp [g_replaced, enter, Tm.d, nmH, h.gM, LIM]
    refine wp_use (within_spec h.W h.I v S 0 63 (k := k)) ?_
    rintro y S1 ⟨rfl, rfl⟩
    cases v with
    | tup l => simp [zOf, rpl, Tm.d, LIM]
    | int i =>
      by_cases hi : 0 ≤ i ∧ i ≤ 63
      · simp [zOf, hi, rpl, Tm.d, d_int, LIM]
      · simp [zOf, hi, rpl, Tm.d, LIM]
theorem mk_parts_len (t : Tm) (l : List Tm) (h : l.length = t.parts.length) : (t.mk l).parts.length = l.length := by
  cases t with
  | un hd r t =>
    match l, h with
    | [u], _ => rfl
    | [], h => simp [Tm.parts] at h
    | _ :: _ :: _, h => simp [Tm.parts] at h
  | lt x a b =>
    match l, h with
    | [u, v], _ => rfl
    | [], h => simp [Tm.parts] at h
    | [_], h => simp [Tm.parts] at h
    | _ :: _ :: _ :: _, h => simp [Tm.parts] at h
  | gr x a b =>
    match l, h with
    | [u, v], _ => rfl
    | [], h => simp [Tm.parts] at h
    | [_], h => simp [Tm.parts] at h
    | _ :: _ :: _ :: _, h => simp [Tm.parts] at h
  | pk _ _ => rfl
  | wg _ _ => rfl
  | lf _ _ => simpa [Tm.mk, Tm.parts] using h.symm
  | self => simpa [Tm.mk, Tm.parts] using h.symm
  | nam _ _ => simpa [Tm.mk, Tm.parts] using h.symm
/-- the parts are changed one by one -/
theorem sub_loop (h : SubFs Fs G iP iB iR iS iW iI gM) {t : Tm} (ht : tok n t) {x : Str} {v : Vl} {K : Nat} (f : Tm → Tm)
    (ih : ∀ u ∈ t.parts, ∀ S, wp (run Fs G w (K + 1) iS [u.d, .str x, v.d] S) (fun d S' => Ext S S' ∧ d = (f u).d) nE) {S : Sto} {d : D} {S1 : Sto} (hp : NewL S S1 d (t.parts.map Tm.d)) (y z : Option D) :
    wpS (exs (run Fs G w (K + 1)) G w (g_substitute_3 iP iB iR iS) [some t.d, some (.str x), some v.d, some d, y, z] S1) (lvQ fun d S' => Ext S S' ∧ d = (t.mk (t.parts.map f)).d) nE := by
  obtain ⟨r, rfl, hr, hg⟩ := hp.ex
  have lr := lt_of_get hg
  have l4 := tok_len ht
  simp [g_substitute_3, g_substitute_4, LIM]
  have e0 : lstOf (S1 ++ [Ob.lst []]) r = some (t.parts.map Tm.d) := by rw [lst_app lr]; exact lst_lst hg
  simp [e0]
  refine forL_live (l := t.parts.map Tm.d) (fun i ρ S' => Ext S1 S' ∧ S'[S1.length]? = some (.lst ((t.parts.take i).map fun u => (f u).d)) ∧ ∃ z, ρ = [some t.d, some (.str x), some v.d, some (.ref r), some (.ref S1.length), z])
    (fun i ρ S' q => q.1.lst (lst_lst hg)) ?_ ?_ _ 0 _ _ (by simp [lenI, e0]) (by omega) ⟨Ext.app _ _, by simp, _, rfl⟩
  · rintro i ρ S' d hd ⟨hx, hf, z, rfl⟩
    rw [List.getElem?_map] at hd
    cases q : t.parts[i]? with
    | none => rw [q] at hd; cases hd
    | some u =>
      rw [q] at hd
      cases hd
      have il := (List.getElem?_eq_some_iff.mp q).1
      refine ⟨_, rfl, ?_⟩
      simp [lst_lst hf]
      refine wp_use (ih u (List.mem_of_getElem? q) S') ?_
      rintro d2 S2 ⟨hx2, rfl⟩
      have hf2 := hx2.at hf
      simp [mut_lst hf2, LIM]
      refine ⟨by omega, (hx.trans hx2).set (Nat.le_refl _) _, ?_⟩
      rw [List.getElem?_set_self (lt_of_get hf2), List.take_add_one, List.getElem?_map, q]
      simp
  · rintro ρ S' ⟨hx, hf, z, rfl⟩
    rw [List.length_map, List.take_length] at hf
    simp [g_substitute_5]
    have e2 : (t.parts.map fun u => (f u).d) = (t.parts.map f).map Tm.d := by rw [List.map_map]; rfl
    rw [e2] at hf
    refine wp_use (rebuilt_spec h.B ht (ls := t.parts.map f) (by simp) (lst_lst hf) (k := K)) ?_
    rintro d S3 ⟨hx3, rfl⟩
    simp
    exact ((hp.ext.trans hx).trans hx3)
theorem sub_mk (x : Str) (v : D) (z : Option Int) (t : Tm) (h1 : ∀ u y, t ≠ .nam u y) (h2 : ∀ a b, t ≠ .lt x a b) : t.sub x v z = t.mk (t.parts.map (Tm.sub x v z)) := by
  cases t with
  | nam u y => exact absurd rfl (h1 u y)
  | lt y a b =>
    have : (y == x) = false := beq_false_of_ne fun e => h2 a b (by rw [e])
    simp [Tm.sub, Tm.mk, Tm.parts, this]
  | pk u l => simp [Tm.sub, Tm.mk, Tm.parts, subs_map]
  | wg u l => simp [Tm.sub, Tm.mk, Tm.parts, subs_map]
  | _ => simp [Tm.sub, Tm.mk, Tm.parts]
theorem substitute_spec (h : SubFs Fs G iP iB iR iS iW iI gM) {x : Str} (hx : x ∈ XH) (v : Vl) : ∀ (n : Nat) (t : Tm) (S : Sto) (k : Nat), tok n t →
    wp (run Fs G w (k + n + 4) iS [t.d, .str x, v.d] S) (fun d S' => Ext S S' ∧ d = (t.sub x v.d (zOf v)).d) nE := by
  have leaf : ∀ (n k : Nat) (t : Tm) (S : Sto), tok n t → (∀ u y, t ≠ .nam u y) → (∀ a b, t ≠ .lt x a b) →
      (∀ u ∈ t.parts, ∀ S, wp (run Fs G w (k + 1) iS [u.d, .str x, v.d] S) (fun d S' => Ext S S' ∧ d = (u.sub x v.d (zOf v)).d) nE) →
      wp (run Fs G w (k + 2) iS [t.d, .str x, v.d] S) (fun d S' => Ext S S' ∧ d = (t.sub x v.d (zOf v)).d) nE := by
    intro n k t S ht h1 h2 ih
    refine wp_run h.S rfl ?_
    have go : ∀ {d : D} {S1 : Sto}, NewL S S1 d (t.parts.map Tm.d) → wpS (exs (run Fs G w (k + 1)) G w (g_substitute_3 iP iB iR iS) [some t.d, some (.str x), some v.d, some d, none, none] S1) (lvQ fun d S' => Ext S S' ∧ d = (t.sub x v.d (zOf v)).d) nE := by
      intro d S1 hp
      rw [sub_mk x v.d (zOf v) t h1 h2]
      exact sub_loop h ht _ ih hp none none
    have sp := parts_spec (G := G) (w := w) (k := k) h.P ht S
    cases t with
    | nam u y => exact absurd rfl (h1 u y)
    | lt y a b =>
      have hy : y ∈ XH := by
        cases n with
        | zero => exact ht.elim
        | succ n => exact ht.1
      have e : (y == x) = false := beq_false_of_ne fun e => h2 a b (by rw [e])
      simp only [Tm.d] at sp go ⊢
      simp [g_substitute, g_substitute_1, enter, LIM]
      refine wp_use sp ?_
      intro d S1 hp
      simp [g_substitute_2, xh_eq hy hx, e]
      exact go hp
    | lf hd r =>
      cases n <;>
      · rcases mem_LH ht.1 with rfl | rfl | rfl | rfl <;>
        · simp only [Tm.d] at sp go ⊢
          simp [g_substitute, g_substitute_1, enter, LIM]
          refine wp_use sp ?_
          intro d S1 hp
          simp [g_substitute_2]
          exact go hp
    | self =>
      simp only [Tm.d] at sp go ⊢
      simp [g_substitute, g_substitute_1, enter, LIM]
      refine wp_use sp ?_
      intro d S1 hp
      simp [g_substitute_2]
      exact go hp
    | un hd r u =>
      cases n with
      | zero => exact ht.elim
      | succ n =>
        rcases mem_UH ht.1 with rfl | rfl | rfl <;>
        · simp only [Tm.d] at sp go ⊢
          simp [g_substitute, g_substitute_1, enter, LIM]
          refine wp_use sp ?_
          intro d S1 hp
          simp [g_substitute_2]
          exact go hp
    | gr m a b =>
      simp only [Tm.d] at sp go ⊢
      simp [g_substitute, g_substitute_1, enter, LIM]
      refine wp_use sp ?_
      intro d S1 hp
      simp [g_substitute_2]
      exact go hp
    | pk u l =>
      cases u <;>
      · simp only [Tm.d, pkH] at sp go ⊢
        simp [g_substitute, g_substitute_1, enter, LIM]
        refine wp_use sp ?_
        intro d S1 hp
        simp [g_substitute_2]
        exact go hp
    | wg ws l =>
      simp only [Tm.d] at sp go ⊢
      simp [g_substitute, g_substitute_1, enter, LIM]
      refine wp_use sp ?_
      intro d S1 hp
      simp [g_substitute_2]
      exact go hp
  have name : ∀ (k : Nat) (u : Bool) (y : Str) (S : Sto), y ∈ XH → wp (run Fs G w (k + 4) iS [(Tm.nam u y).d, .str x, v.d] S) (fun d S' => Ext S S' ∧ d = ((Tm.nam u y).sub x v.d (zOf v)).d) nE := by
    intro k u y S hy
    refine wp_run h.S rfl ?_
    have sp := replaced_spec (w := w) (k := k) h u y v S
    cases u <;>
    · simp only [Tm.d, nmH] at sp ⊢
      simp [g_substitute, enter, LIM, xh_eq hy hx]
      refine cas_bl (fun q => ?_) fun q => ?_
      · refine wp_use sp ?_
        rintro d S1 ⟨rfl, rfl⟩
        simp [Tm.sub, q]
        exact Ext.refl _
      · simp [Tm.sub, q, Tm.d, nmH]
        exact Ext.refl _
  intro n
  induction n with
  | zero =>
    intro t S k ht
    cases t with
    | nam u y => exact name k u y S ht
    | lt _ _ _ => exact ht.elim
    | lf hd r => exact leaf 0 (k + 2) _ S ht (fun _ _ q => by cases q) (fun _ _ q => by cases q) (fun u hu => by cases hu)
    | self => exact leaf 0 (k + 2) _ S ht (fun _ _ q => by cases q) (fun _ _ q => by cases q) (fun u hu => by cases hu)
    | un _ _ _ => exact ht.elim
    | gr _ _ _ => exact ht.elim
    | pk _ _ => exact ht.elim
    | wg _ _ => exact ht.elim
  | succ n ih =>
    intro t S k ht
    have parts : ∀ u ∈ t.parts, ∀ S, wp (run Fs G w (k + n + 4) iS [u.d, .str x, v.d] S) (fun d S' => Ext S S' ∧ d = (u.sub x v.d (zOf v)).d) nE := fun u hu S => ih u S k (tok_parts ht hu)
    by_cases h1 : ∃ u y, t = .nam u y
    · obtain ⟨u, y, rfl⟩ := h1
      exact runk (by omega) (name (k + n + 1) u y S ht)
    · by_cases h2 : ∃ a b, t = .lt x a b
      · obtain ⟨a, b, rfl⟩ := h2
        refine runk (a := k + n + 5) (by omega) (wp_run h.S rfl ?_)
        have sp := parts_spec (G := G) (w := w) (k := k + n + 3) h.P ht S
        simp only [Tm.d] at sp ⊢
        simp [g_substitute, g_substitute_1, enter, LIM]
        refine wp_use sp ?_
        rintro d S1 ⟨hx1, r, rfl, hr, hg⟩
        have ee : cm2 .eq (.str x) (.str x) S1 = some true := by rw [xh_eq hx hx]; simp
        simp [g_substitute_2, ee, lst_lst hg, Tm.parts]
        refine wp_use (parts a (by simp [Tm.parts]) S1) ?_
        rintro d S2 ⟨hx2, rfl⟩
        have hg2 := hx2.at hg
        simp [lst_lst hg2, Tm.parts, LIM]
        refine wp_use (rebuilt_spec (G := G) (w := w) (S := S2 ++ [Ob.lst [(a.sub x v.d (zOf v)).d, b.d]]) h.B ht (ls := [a.sub x v.d (zOf v), b]) rfl (r := S2.length) (by simp [lstOf]) (k := k + n + 3)) ?_
        rintro d S3 ⟨hx3, rfl⟩
        refine ⟨((hx1.trans hx2).trans (Ext.app _ _)).trans hx3, ?_⟩
        simp [Tm.sub, Tm.mk]
      · exact runk (by omega) (leaf (n + 1) (k + n + 3) t S ht (fun u y q => h1 ⟨u, y, q⟩) (fun a b q => h2 ⟨a, b, q⟩) parts)
end
end Mx
set_option Elab.async false
set_option linter.all false
set_option maxRecDepth 100000
set_option maxHeartbeats 8000000
namespace Mx
open PySem L2
/-! the head of a term -/
def Tm.hd : Tm → Str
  | .lf h _ => h
  | .self => "self"
  | .nam u _ => nmH u
  | .un h _ _ => h
  | .lt _ _ _ => "let"
  | .gr _ _ _ => "grow"
  | .pk u _ => pkH u
  | .wg _ _ => "weigh"
def Tm.tl : Tm → List D
  | .lf _ r => r
  | .self => []
  | .nam _ x => [.str x]
  | .un _ r t => r ++ [t.d]
  | .lt x a b => [.str x, a.d, b.d]
  | .gr n a b => [.int n, a.d, b.d]
  | .pk _ l => [.tup (Tm.ds l)]
  | .wg ws l => [.tup (wds ws (Tm.ds l))]
theorem d_hd (t : Tm) : t.d = .tup (.str t.hd :: t.tl) := by cases t <;> simp [Tm.d, Tm.hd, Tm.tl]
def Tm.isNam : Tm → Bool | .nam _ _ => true | _ => false
def Tm.isLet : Tm → Bool | .lt _ _ _ => true | _ => false
def Tm.isGr : Tm → Bool | .gr _ _ _ => true | _ => false
def Tm.isSelf : Tm → Bool | .self => true | _ => false
structure HdOk (t : Tm) : Prop where
  ok : PyData.strOk t.hd = true
  self : (t.hd == Str.ofString "self") = t.isSelf
  lt : (t.hd == Str.ofString "let") = t.isLet
  gr : (t.hd == Str.ofString "grow") = t.isGr
  nam : ((t.hd == Str.ofString "var") || (t.hd == Str.ofString "upto")) = t.isNam
theorem nam_r {x y : Str} : (x == y) = (y == x) := by
  by_cases h : x = y
  · subst h; rfl
  · rw [show (x == y) = false from beq_false_of_ne h, show (y == x) = false from beq_false_of_ne (Ne.symm h)]
theorem hdOk {n : Nat} {t : Tm} (ht : tok n t) : HdOk t := by
  cases t with
  | lf h r =>
    cases n <;>
    · rcases mem_LH ht.1 with rfl | rfl | rfl | rfl <;> (constructor <;> simp [Tm.hd, Tm.isSelf, Tm.isLet, Tm.isGr, Tm.isNam])
  | un h r t =>
    cases n with
    | zero => exact ht.elim
    | succ n => rcases mem_UH ht.1 with rfl | rfl | rfl <;> (constructor <;> simp [Tm.hd, Tm.isSelf, Tm.isLet, Tm.isGr, Tm.isNam])
  | nam u x => cases u <;> (constructor <;> simp [Tm.hd, Tm.isSelf, Tm.isLet, Tm.isGr, Tm.isNam, nmH])
  | pk u x => cases u <;> (constructor <;> simp [Tm.hd, Tm.isSelf, Tm.isLet, Tm.isGr, Tm.isNam, pkH])
  | _ => constructor <;> simp [Tm.hd, Tm.isSelf, Tm.isLet, Tm.isGr, Tm.isNam]
theorem lvQ_mono {m : MoS} {Q Q' : D → Sto → Prop} {E : Exn → Sto → Prop} (h : wpS m (lvQ Q) E) (q : ∀ d S, Q d S → Q' d S) : wpS m (lvQ Q') E := wpS_mono h (fun f ρ S z => by
  cases f with
  | nx => exact q _ _ z
  | ret d => exact q _ _ z
  | _ => exact z) fun _ _ z => z
theorem isin_names {S : Sto} {x : Str} (hx : x ∈ XH) : ∀ l : List Str, (∀ y ∈ l, y ∈ XH) → isin S (.str x) (l.map D.str) = some (l.contains x)
  | [], _ => by simp
  | y :: l, h => by
    rw [List.map_cons, isin_str (ok_XH hx) (ok_XH (h y List.mem_cons_self)), isin_names hx l fun z hz => h z (List.mem_cons_of_mem _ hz)]
    have e : (x == y) = decide (x = y) := by by_cases h : x = y <;> simp [h]
    simp [List.contains_cons, nam_r (x := y), e]
section
variable {Fs : List Fn} {G : List D} {w k n iP iB iU iC iI iW iR iS iX gM : Nat}
theorem uses_spec (hU : Fs[iU]? = some ⟨2, 4, g_uses iP iU⟩) (hP : Fs[iP]? = some ⟨1, 3, g_parts_of⟩) {x : Str} (hx : x ∈ XH) : ∀ (n : Nat) (t : Tm) (S : Sto) (k : Nat), tok n t →
    wp (run Fs G w (k + n + 2) iU [t.d, .str x] S) (fun d S' => Ext S S' ∧ d = .bl (decide (x ∈ t.free))) nE := by
  -- the walk over parts
  have loop : ∀ (t : Tm) (K : Nat) (L : List Tm), L.length ≤ 4 → (∀ u ∈ L, ∀ S, wp (run Fs G w (K + 1) iU [u.d, .str x] S) (fun d S' => Ext S S' ∧ d = .bl (decide (x ∈ u.free))) nE) →
      ∀ (S S1 : Sto) (d : D), NewL S S1 d (L.map Tm.d) → wpS (exs (run Fs G w (K + 1)) G w (g_uses_3 iP iU) [some t.d, some (.str x), some d, none] S1) (lvQ fun d S' => Ext S S' ∧ d = .bl (decide (x ∈ Tm.frees L))) nE := by
    rintro t K L h4 ih S S1 d ⟨hx1, r, rfl, hr, hg⟩
    simp [g_uses_3, lst_lst hg]
    refine forL_live (l := L.map Tm.d) (fun i ρ S' => Ext S1 S' ∧ (∃ z, ρ = [some t.d, some (.str x), some (.ref r), z]) ∧ ∀ u ∈ L.take i, x ∉ u.free)
      (fun i ρ S' q => q.1.lst (lst_lst hg)) ?_ ?_ _ 0 _ _ (by simp [lenI, lst_lst hg]) (by omega) ⟨Ext.refl _, ⟨_, rfl⟩, by simp⟩
    · rintro i ρ S' d hd ⟨hx2, ⟨z, rfl⟩, hf⟩
      rw [List.getElem?_map] at hd
      cases q : L[i]? with
      | none => rw [q] at hd; cases hd
      | some u =>
        rw [q] at hd
        cases hd
        refine ⟨_, rfl, ?_⟩
        simp
        refine wp_use (ih u (List.mem_of_getElem? q) S') ?_
        rintro d2 S2 ⟨hx3, rfl⟩
        simp only [vfin_t, t_bl, opt_some]
        refine cas_bl (fun b => ?_) fun b => ?_
        · simp
          refine ⟨(hx1.trans hx2).trans hx3, ?_⟩
          rw [frees_map]
          have : x ∈ u.free := by simpa using b
          exact List.mem_flatten.mpr ⟨_, List.mem_map.mpr ⟨u, List.mem_of_getElem? q, rfl⟩, this⟩
        · simp
          refine ⟨hx2.trans hx3, ?_⟩
          intro v hv
          rw [List.take_add_one, q, List.mem_append] at hv
          rcases hv with hv | hv
          · exact hf v hv
          · simp at hv
            subst hv
            simpa using b
    · rintro ρ S' ⟨hx2, ⟨z, rfl⟩, hf⟩
      rw [List.length_map, List.take_length] at hf
      simp [g_uses_4]
      refine ⟨hx1.trans hx2, ?_⟩
      rw [frees_map]
      intro h
      obtain ⟨l, hl, hz⟩ := List.mem_flatten.mp h
      obtain ⟨u, hu, rfl⟩ := List.mem_map.mp hl
      exact hf u hu hz
  intro n
  have main : ∀ (n : Nat) (t : Tm) (S : Sto) (K : Nat), tok n t → (∀ u ∈ t.parts, ∀ S, wp (run Fs G w (K + 1) iU [u.d, .str x] S) (fun d S' => Ext S S' ∧ d = .bl (decide (x ∈ u.free))) nE) →
      wp (run Fs G w (K + 2) iU [t.d, .str x] S) (fun d S' => Ext S S' ∧ d = .bl (decide (x ∈ t.free))) nE := by
    intro n t S K ht ih
    refine wp_run hU rfl ?_
    have H := hdOk ht
    have l4 := tok_len ht
    have sp := parts_spec (G := G) (w := w) (k := K) hP ht S
    cases hn : t.isNam with
    | true =>
      cases t with
      | nam u y =>
        have hy : y ∈ XH := by cases n <;> exact ht
        have e : ([y].contains x) = (y == x) := by
          by_cases q : x = y <;> simp [q, nam_r (x := y)]
        cases u <;>
        · simp [Tm.d, nmH, g_uses, enter, LIM, xh_eq hy hx, Tm.free]
          refine ⟨Ext.refl _, ?_⟩
          simpa using e.symm
      | _ => cases hn
    | false =>
      have e2 := H.nam
      rw [hn, Bool.or_eq_false_iff] at e2
      cases hl : t.isLet with
      | true =>
        cases t with
        | lt y a b =>
          have hy : y ∈ XH := by
            cases n with
            | zero => exact ht.elim
            | succ n => exact ht.1
          simp only [Tm.d] at sp ⊢
          simp [g_uses, g_uses_1, enter, LIM]
          refine wp_use sp ?_
          intro d S1 hp
          obtain ⟨hx1, r, rfl, hr, hg⟩ := hp
          simp [g_uses_2, xh_eq hy hx]
          refine cas_bl (fun q => ?_) fun q => ?_
          · have q' : y = x := by simpa using q
            subst q'
            simp [lst_lst hg, Tm.parts]
            have c : cutD [a.d, b.d] none (some 1) = [a.d] := cut_take' [a.d] [b.d] 1 rfl
            rw [c]
            have := loop (.lt y a b) K [a] (by simp) (fun u hu => ih u (by simp at hu; subst hu; simp [Tm.parts])) S (S1 ++ [.lst [a.d]]) (.ref S1.length) ⟨hx1.trans (Ext.app _ _), _, rfl, hx1.len, by simp⟩
            rw [Tm.d] at this
            refine lvQ_mono this fun d S' h => ⟨h.1, ?_⟩
            rw [h.2]
            simp [Tm.frees, Tm.free]
          · have q' : ¬ y = x := by simpa using q
            have := loop (.lt y a b) K [a, b] (by simp) (fun u hu => ih u hu) S S1 (.ref r) ⟨hx1, r, rfl, hr, hg⟩
            rw [Tm.d] at this
            simp
            refine lvQ_mono this fun d S' h => ⟨h.1, ?_⟩
            rw [h.2]
            have q2 : ¬ x = y := fun z => q' z.symm
            simp [Tm.frees, Tm.free, q2]
        | _ => cases hl
      | false =>
        have fr : t.free = Tm.frees t.parts := by
          cases t with
          | nam _ _ => cases hn
          | lt _ _ _ => cases hl
          | _ => simp [Tm.free, Tm.frees, Tm.parts]
        have lp := loop t K t.parts l4 ih
        rw [d_hd] at sp lp ⊢
        have e1 := H.lt
        rw [hl] at e1
        simp [g_uses, g_uses_1, enter, LIM, H.ok, e2.1, e2.2, nam_r]
        refine wp_use sp ?_
        intro d S1 hp
        simp [g_uses_2, H.ok, e1]
        rw [fr]
        exact lp S S1 d hp
  induction n with
  | zero => exact fun t S k ht => main 0 t S k ht fun u hu => by rw [tok_parts0 ht] at hu; cases hu
  | succ n ih => exact fun t S k ht => runk (by omega) (main (n + 1) t S (k + n + 1) ht fun u hu S => ih u S k (tok_parts ht hu))
end
end Mx
set_option Elab.async false
set_option linter.all false
set_option maxRecDepth 100000
set_option maxHeartbeats 8000000
namespace Mx
open PySem L2
section
variable {Fs : List Fn} {G : List D} {w k n iP iB iU iC iI iW iR iS iX gM : Nat}
theorem isclosed_spec (hC : Fs[iC]? = some ⟨2, 3, g_is_closed iP iC⟩) (hP : Fs[iP]? = some ⟨1, 3, g_parts_of⟩) : ∀ (n : Nat) (t : Tm) (ns : List Str) (S : Sto) (k : Nat), tok n t → ns.length + n ≤ 1000 → (∀ y ∈ ns, y ∈ XH) →
    wp (run Fs G w (k + n + 2) iC [t.d, .tup (ns.map .str)] S) (fun d S' => Ext S S' ∧ d = .bl (decide (∀ y ∈ t.free, y ∈ ns))) nE := by
  intro n
  have main : ∀ (n : Nat) (t : Tm) (ns : List Str) (S : Sto) (K : Nat), tok n t → ns.length ≤ 1000 → (∀ y ∈ ns, y ∈ XH) →
      (∀ u ∈ t.parts, ∀ (S : Sto) (ms : List Str), ms.length ≤ ns.length + 1 → (∀ y ∈ ms, y ∈ XH) → wp (run Fs G w (K + 1) iC [u.d, .tup (ms.map .str)] S) (fun d S' => Ext S S' ∧ d = .bl (decide (∀ y ∈ u.free, y ∈ ms))) nE) →
      wp (run Fs G w (K + 2) iC [t.d, .tup (ns.map .str)] S) (fun d S' => Ext S S' ∧ d = .bl (decide (∀ y ∈ t.free, y ∈ ns))) nE := by
    intro n t ns S K ht hl hm ih
    refine wp_run hC rfl ?_
    have H := hdOk ht
    have l4 := tok_len ht
    have sp := parts_spec (G := G) (w := w) (k := K) hP ht S
    cases hn : t.isNam with
    | true =>
      cases t with
      | nam u y =>
        have hy : y ∈ XH := by cases n <;> exact ht
        cases u <;>
        · simp [Tm.d, nmH, g_is_closed, enter, LIM, isin_names hy ns hm, Tm.free]
          exact Ext.refl _
      | _ => cases hn
    | false =>
      have e2 := H.nam
      rw [hn, Bool.or_eq_false_iff] at e2
      cases hlt : t.isLet with
      | true =>
        cases t with
        | lt y a b =>
          have hy : y ∈ XH := by
            cases n with
            | zero => exact ht.elim
            | succ n => exact ht.1
          simp [Tm.d, g_is_closed, g_is_closed_1, enter, LIM]
          have i1 := ih a (by simp [Tm.parts]) S ns (by omega) hm
          refine wp_use i1 ?_
          rintro d S1 ⟨hx1, rfl⟩
          refine cas_dec (fun q => ?_) fun q => ?_
          · have i2 := ih b (by simp [Tm.parts]) S1 (ns ++ [y]) (by simp) (fun z hz => by
              rcases List.mem_append.mp hz with h | h
              · exact hm z h
              · simp at h; subst h; exact hy)
            simp [LIM]
            refine ⟨by omega, ?_⟩
            rw [List.map_append] at i2
            refine wp_use i2 ?_
            rintro d S2 ⟨hx2, rfl⟩
            refine ⟨hx1.trans hx2, ?_⟩
            refine congrArg D.bl (decide_eq_decide.mpr ⟨fun h z hz => ?_, fun h z hz => ?_⟩)
            · simp only [Tm.free, List.mem_append, List.mem_filter, bne_iff_ne] at hz
              rcases hz with hz | ⟨hz, hzy⟩
              · exact q z hz
              · rcases List.mem_append.mp (h z hz) with h | h
                · exact h
                · exact absurd (by simpa using h) hzy
            · rw [List.mem_append]
              by_cases e : z = y
              · exact .inr (by simp [e])
              · exact .inl (h z (by simp [Tm.free, hz, e]))
          · simp
            refine ⟨hx1, ?_⟩
            have ⟨z, hz⟩ := Classical.not_forall.mp q
            have ⟨hz1, hz2⟩ := Classical.not_imp.mp hz
            exact ⟨z, by simp [Tm.free, hz1], hz2⟩
        | _ => cases hlt
      | false =>
        have fr : t.free = Tm.frees t.parts := by
          cases t with
          | nam _ _ => cases hn
          | lt _ _ _ => cases hlt
          | _ => simp [Tm.free, Tm.frees, Tm.parts]
        have e1 := H.lt
        rw [hlt] at e1
        rw [d_hd] at sp ⊢
        simp [g_is_closed, g_is_closed_1, g_is_closed_2, enter, LIM, H.ok, e2.1, e2.2, nam_r, e1]
        refine wp_use sp ?_
        rintro d S1 ⟨hx1, r, rfl, hr, hg⟩
        simp [lst_lst hg]
        refine forL_live (l := t.parts.map Tm.d) (fun i ρ S' => Ext S1 S' ∧ (∃ z, ρ = [some (.tup (.str t.hd :: t.tl)), some (.tup (ns.map .str)), z]) ∧ ∀ u ∈ t.parts.take i, ∀ y ∈ u.free, y ∈ ns)
          (fun i ρ S' q => q.1.lst (lst_lst hg)) ?_ ?_ _ 0 _ _ (by simp [lenI, lst_lst hg]) (by omega) ⟨Ext.refl _, ⟨_, rfl⟩, by simp⟩
        · rintro i ρ S' d hd ⟨hx2, ⟨z, rfl⟩, hf⟩
          rw [List.getElem?_map] at hd
          cases q : t.parts[i]? with
          | none => rw [q] at hd; cases hd
          | some u =>
            rw [q] at hd
            cases hd
            refine ⟨_, rfl, ?_⟩
            simp
            refine wp_use (ih u (List.mem_of_getElem? q) S' ns (by omega) hm) ?_
            rintro d2 S2 ⟨hx3, rfl⟩
            simp only [vfin_t, t_bl, opt_some]
            simp
            refine cas_dec (fun b => ?_) fun b => ?_
            · simp
              refine ⟨hx2.trans hx3, ?_⟩
              intro v hv
              rw [List.take_add_one, q, List.mem_append] at hv
              rcases hv with hv | hv
              · exact hf v hv
              · simp at hv
                subst hv
                exact b
            · simp
              refine ⟨(hx1.trans hx2).trans hx3, ?_⟩
              rw [fr, frees_map]
              have ⟨y, hy⟩ := Classical.not_forall.mp b
              have ⟨hy1, hy2⟩ := Classical.not_imp.mp hy
              exact ⟨y, List.mem_flatten.mpr ⟨_, List.mem_map.mpr ⟨u, List.mem_of_getElem? q, rfl⟩, hy1⟩, hy2⟩
        · rintro ρ S' ⟨hx2, ⟨z, rfl⟩, hf⟩
          rw [List.length_map, List.take_length] at hf
          simp [g_is_closed_3]
          refine ⟨hx1.trans hx2, ?_⟩
          rw [fr, frees_map]
          intro y hy
          obtain ⟨l, hl, hz⟩ := List.mem_flatten.mp hy
          obtain ⟨u, hu, rfl⟩ := List.mem_map.mp hl
          exact hf u hu y hz
  induction n with
  | zero => exact fun t ns S k ht hl hm => main 0 t ns S k ht (by omega) hm fun u hu => by rw [tok_parts0 ht] at hu; cases hu
  | succ n ih => exact fun t ns S k ht hl hm => runk (by omega) (main (n + 1) t ns S (k + n + 1) ht (by omega) hm fun u hu S ms h1 h2 => ih u ms S k (tok_parts ht hu) (by omega) h2)
end
end Mx
set_option Elab.async false
set_option linter.all false
set_option maxRecDepth 100000
set_option maxHeartbeats 8000000
namespace Mx
open PySem L2
section
variable {Fs : List Fn} {G : List D} {w k n iP iB iU iC iI iW iR iS iX iN gM : Nat}
structure SelfFs (Fs : List Fn) (iP iB iX : Nat) : Prop where
  X : Fs[iX]? = some ⟨2, 5, g__with_self iP iB iX⟩
  P : Fs[iP]? = some ⟨1, 3, g_parts_of⟩
  B : Fs[iB]? = some ⟨2, 5, g_rebuilt⟩
theorem wi_mk (s : Tm) (t : Tm) (h1 : t.isSelf = false) (h2 : t.isGr = false) : Tm.wi s t = t.mk (t.parts.map (Tm.wi s)) := by
  cases t with
  | self => cases h1
  | gr _ _ _ => cases h2
  | pk u l => simp [Tm.wi, Tm.mk, Tm.parts, wis_map]
  | wg u l => simp [Tm.wi, Tm.mk, Tm.parts, wis_map]
  | _ => simp [Tm.wi, Tm.mk, Tm.parts]
theorem self_loop (h : SelfFs Fs iP iB iX) {t : Tm} (ht : tok n t) {s : D} {K : Nat} (f : Tm → Tm)
    (ih : ∀ u ∈ t.parts, ∀ S, wp (run Fs G w (K + 1) iX [u.d, s] S) (fun d S' => Ext S S' ∧ d = (f u).d) nE) {S : Sto} {d : D} {S1 : Sto} (hp : NewL S S1 d (t.parts.map Tm.d)) (y z : Option D) :
    wpS (exs (run Fs G w (K + 1)) G w (g__with_self_3 iP iB iX) [some t.d, some s, some d, y, z] S1) (lvQ fun d S' => Ext S S' ∧ d = (t.mk (t.parts.map f)).d) nE := by
  obtain ⟨r, rfl, hr, hg⟩ := hp.ex
  have lr := lt_of_get hg
  have l4 := tok_len ht
  simp [g__with_self_3, g__with_self_4, LIM]
  have e0 : lstOf (S1 ++ [Ob.lst []]) r = some (t.parts.map Tm.d) := by rw [lst_app lr]; exact lst_lst hg
  simp [e0]
  refine forL_live (l := t.parts.map Tm.d) (fun i ρ S' => Ext S1 S' ∧ S'[S1.length]? = some (.lst ((t.parts.take i).map fun u => (f u).d)) ∧ ∃ z, ρ = [some t.d, some s, some (.ref r), some (.ref S1.length), z])
    (fun i ρ S' q => q.1.lst (lst_lst hg)) ?_ ?_ _ 0 _ _ (by simp [lenI, e0]) (by omega) ⟨Ext.app _ _, by simp, _, rfl⟩
  · rintro i ρ S' d hd ⟨hx, hf, z, rfl⟩
    rw [List.getElem?_map] at hd
    cases q : t.parts[i]? with
    | none => rw [q] at hd; cases hd
    | some u =>
      rw [q] at hd
      cases hd
      have il := (List.getElem?_eq_some_iff.mp q).1
      refine ⟨_, rfl, ?_⟩
      simp [lst_lst hf]
      refine wp_use (ih u (List.mem_of_getElem? q) S') ?_
      rintro d2 S2 ⟨hx2, rfl⟩
      have hf2 := hx2.at hf
      simp [mut_lst hf2, LIM]
      refine ⟨by omega, (hx.trans hx2).set (Nat.le_refl _) _, ?_⟩
      rw [List.getElem?_set_self (lt_of_get hf2), List.take_add_one, List.getElem?_map, q]
      simp
  · rintro ρ S' ⟨hx, hf, z, rfl⟩
    rw [List.length_map, List.take_length] at hf
    simp [g__with_self_5]
    have e2 : (t.parts.map fun u => (f u).d) = (t.parts.map f).map Tm.d := by rw [List.map_map]; rfl
    rw [e2] at hf
    refine wp_use (rebuilt_spec h.B ht (ls := t.parts.map f) (by simp) (lst_lst hf) (k := K)) ?_
    rintro d S3 ⟨hx3, rfl⟩
    simp
    exact ((hp.ext.trans hx).trans hx3)
theorem withself_spec (h : SelfFs Fs iP iB iX) (s : Tm) : ∀ (n : Nat) (t : Tm) (S : Sto) (k : Nat), tok n t →
    wp (run Fs G w (k + n + 2) iX [t.d, s.d] S) (fun d S' => Ext S S' ∧ d = (Tm.wi s t).d) nE := by
  intro n
  have main : ∀ (n : Nat) (t : Tm) (S : Sto) (K : Nat), tok n t → (∀ u ∈ t.parts, ∀ S, wp (run Fs G w (K + 1) iX [u.d, s.d] S) (fun d S' => Ext S S' ∧ d = (Tm.wi s u).d) nE) →
      wp (run Fs G w (K + 2) iX [t.d, s.d] S) (fun d S' => Ext S S' ∧ d = (Tm.wi s t).d) nE := by
    intro n t S K ht ih
    refine wp_run h.X rfl ?_
    have H := hdOk ht
    have sp := parts_spec (G := G) (w := w) (k := K) h.P ht S
    cases hs : t.isSelf with
    | true =>
      cases t with
      | self =>
        simp [Tm.d, g__with_self, enter, Tm.wi]
        exact Ext.refl _
      | _ => cases hs
    | false =>
      have e1 := H.self
      rw [hs] at e1
      cases hg : t.isGr with
      | true =>
        cases t with
        | gr m a b =>
          simp only [Tm.d] at sp ⊢
          simp [g__with_self, g__with_self_1, enter, LIM]
          refine wp_use sp ?_
          rintro d S1 ⟨hx1, r, rfl, hr, hg⟩
          simp [g__with_self_2, lst_lst hg, Tm.parts]
          refine wp_use (ih a (by simp [Tm.parts]) S1) ?_
          rintro d S2 ⟨hx2, rfl⟩
          have hg2 := hx2.at hg
          simp [lst_lst hg2, Tm.parts, LIM]
          have := rebuilt_spec (G := G) (w := w) (S := S2 ++ [Ob.lst [(Tm.wi s a).d, b.d]]) h.B ht (ls := [Tm.wi s a, b]) rfl (r := S2.length) (by simp [lstOf]) (k := K)
          rw [Tm.d] at this
          refine wp_use this ?_
          rintro d S3 ⟨hx3, rfl⟩
          refine ⟨((hx1.trans hx2).trans (Ext.app _ _)).trans hx3, ?_⟩
          simp [Tm.wi, Tm.mk]
        | _ => cases hg
      | false =>
        have e2 := H.gr
        rw [hg] at e2
        have lp := fun (S1 : Sto) (d : D) (hp : NewL S S1 d (t.parts.map Tm.d)) => self_loop (G := G) (w := w) h ht (Tm.wi s) ih hp none none
        rw [wi_mk s t hs hg]
        rw [d_hd t] at sp lp ⊢
        simp [g__with_self, g__with_self_1, enter, LIM, H.ok, e1]
        refine wp_use sp ?_
        intro d S1 hp
        simp [g__with_self_2, H.ok, e2]
        exact lp S1 d hp
  induction n with
  | zero => exact fun t S k ht => main 0 t S k ht fun u hu => by rw [tok_parts0 ht] at hu; cases hu
  | succ n ih => exact fun t S k ht => runk (by omega) (main (n + 1) t S (k + n + 1) ht fun u hu S => ih u S k (tok_parts ht hu))
/-- what a grow stands for -/
def unf (m : Int) (a b : Tm) : Tm := if m = 0 then a else Tm.wi (.gr (m - 1) a b) b
theorem unfolded_spec (hN : Fs[iN]? = some ⟨1, 5, g_unfolded iX⟩) (h : SelfFs Fs iP iB iX) {m : Int} {a b : Tm} (hb : tok n b) (S : Sto) :
    wp (run Fs G w (k + n + 3) iN [(Tm.gr m a b).d] S) (fun d S' => Ext S S' ∧ d = (unf m a b).d) nE := by
  refine wp_run hN rfl ?_
  simp [g_unfolded, enter, Tm.d, LIM]
  refine cas_beq (fun q => ?_) fun q => ?_
  · subst q
    simp [unf]
    exact Ext.refl _
  · simp [LIM]
    have := withself_spec (G := G) (w := w) h (.gr (m - 1) a b) n b S k hb
    rw [Tm.d] at this
    refine wp_use this ?_
    rintro d S1 ⟨hx, rfl⟩
    simp [unf, q, hx]
end
end Mx
set_option Elab.async false
set_option linter.all false
set_option maxRecDepth 100000
set_option maxHeartbeats 8000000
namespace Mx
open PySem L2
def g__law_put_6 (iL : Nat) : Sms := .cons (.ret (.var 0)) .nil
def g__law_put_5 (iL : Nat) : Sms := .cons (.iff (.or (.cmp .eq (.var 3) (.cst (.str "let"))) (.cmp .eq (.var 3) (.cst (.str "grow"))))
  (.cons (.ret (.bin .add (.slc (.var 0) .nil (.cons (.cst (.int 2)) .nil)) (.tup (.cons (.cal iL (.cons (.idx (.var 0) (.cst (.int 2))) (.cons (.var 1) (.cons (.var 2) .nil)))) (.cons (.cal iL (.cons (.idx (.var 0) (.cst (.int 3))) (.cons (.var 1) (.cons (.var 2) .nil)))) .nil))))) .nil)
  .nil) (g__law_put_6 iL)
def g__law_put_4 (iL : Nat) : Sms := .cons (.iff (.cmp .isin (.var 3) (.tup (.cons (.cst (.str "list")) (.cons (.cst (.str "keep")) (.cons (.cst (.str "map")) .nil)))))
  (.cons (.ret (.bin .add (.slc (.var 0) .nil (.cons (.neg (.cst (.int 1))) .nil)) (.tup (.cons (.cal iL (.cons (.idx (.var 0) (.neg (.cst (.int 1)))) (.cons (.var 1) (.cons (.var 2) .nil)))) .nil)))) .nil)
  .nil) (g__law_put_5 iL)
def g__law_put_3 (iL : Nat) : Sms := .cons (.iff (.cmp .eq (.var 3) (.cst (.str "weigh")))
  (.cons (.ret (.tup (.cons (.var 3) (.cons (.bi .tuple (.cons (.lc (.tup (.cons (.idx (.var 5) (.cst (.int 0))) (.cons (.cal iL (.cons (.idx (.var 5) (.cst (.int 1))) (.cons (.var 1) (.cons (.var 2) .nil)))) .nil))) [5] (.nm 5) .val (.cons (.idx (.var 0) (.cst (.int 1))) .nil) .nil) .nil)) .nil)))) .nil)
  .nil) (g__law_put_4 iL)
def g__law_put_2 (iL : Nat) : Sms := .cons (.iff (.or (.cmp .eq (.var 3) (.cst (.str "pick"))) (.cmp .eq (.var 3) (.cst (.str "tuple"))))
  (.cons (.ret (.tup (.cons (.var 3) (.cons (.bi .tuple (.cons (.lc (.cal iL (.cons (.var 4) (.cons (.var 1) (.cons (.var 2) .nil)))) [4] (.nm 4) .val (.cons (.idx (.var 0) (.cst (.int 1))) .nil) .nil) .nil)) .nil)))) .nil)
  .nil) (g__law_put_3 iL)
def g__law_put_1 (iL : Nat) : Sms := .cons (.iff (.cmp .eq (.var 1) (.cst (.str "self")))
  (.cons (.iff (.cmp .eq (.var 3) (.cst (.str "self")))
   (.cons (.ret (.var 2)) .nil)
   .nil) <|
  (.cons (.iff (.cmp .eq (.var 3) (.cst (.str "grow")))
   (.cons (.ret (.tup (.cons (.var 3) (.cons (.idx (.var 0) (.cst (.int 1))) (.cons (.cal iL (.cons (.idx (.var 0) (.cst (.int 2))) (.cons (.var 1) (.cons (.var 2) .nil)))) (.cons (.idx (.var 0) (.cst (.int 3))) .nil)))))) .nil)
   .nil) .nil))
  (.cons (.iff (.an (.cmp .eq (.var 3) (.cst (.str "var"))) (.cmp .eq (.idx (.var 0) (.cst (.int 1))) (.var 1)))
   (.cons (.ret (.tup (.cons (.cst (.str "const")) (.cons (.var 2) .nil)))) .nil)
   (.cons (.iff (.an (.cmp .eq (.var 3) (.cst (.str "upto"))) (.cmp .eq (.idx (.var 0) (.cst (.int 1))) (.var 1)))
    (.cons (.iff (.an (.isi (.var 2) .int) (.chn .le .le (.cst (.int 0)) (.var 2) (.cst (.int 63))))
     (.cons (.ret (.tup (.cons (.cst (.str "range")) (.cons (.cst (.int 0)) (.cons (.var 2) .nil))))) .nil)
     .nil) <|
    (.cons (.ret (.tup (.cons (.cst (.str "const")) (.cons (.cst (.int 0)) .nil)))) .nil))
    (.cons (.iff (.an (.cmp .eq (.var 3) (.cst (.str "let"))) (.cmp .eq (.idx (.var 0) (.cst (.int 1))) (.var 1)))
     (.cons (.ret (.tup (.cons (.var 3) (.cons (.var 1) (.cons (.cal iL (.cons (.idx (.var 0) (.cst (.int 2))) (.cons (.var 1) (.cons (.var 2) .nil)))) (.cons (.idx (.var 0) (.cst (.int 3))) .nil)))))) .nil)
     .nil) .nil)) .nil)) .nil)) (g__law_put_2 iL)
def g__law_put (iL : Nat) : Sms := .cons (.asg (.nm 3) (.idx (.var 0) (.cst (.int 0)))) (g__law_put_1 iL)
def g__law_free_5 (iL : Nat) : Sms := .cons (.ret (.var 3)) .nil
def g__law_free_4 (iL : Nat) : Sms := .cons (.for (.nm 4) .val (.cons (.var 2) .nil)
  (.cons (.expr (.mth .extend (.var 3) (.cons (.cal iL (.cons (.var 4) .nil)) .nil))) .nil)) (g__law_free_5 iL)
def g__law_free_3 (iL : Nat) : Sms := .cons (.asg (.nm 3) (.lst .nil)) (g__law_free_4 iL)
def g__law_free_2 (iL : Nat) : Sms := .cons (.iff (.or (.cmp .eq (.var 1) (.cst (.str "pick"))) (.cmp .eq (.var 1) (.cst (.str "tuple"))))
  (.cons (.asg (.nm 2) (.bi .list (.cons (.idx (.var 0) (.cst (.int 1))) .nil))) .nil)
  (.cons (.iff (.cmp .eq (.var 1) (.cst (.str "weigh")))
   (.cons (.asg (.nm 2) (.lc (.idx (.var 5) (.cst (.int 1))) [5] (.nm 5) .val (.cons (.idx (.var 0) (.cst (.int 1))) .nil) .nil)) .nil)
   (.cons (.iff (.cmp .isin (.var 1) (.tup (.cons (.cst (.str "list")) (.cons (.cst (.str "keep")) (.cons (.cst (.str "map")) .nil)))))
    (.cons (.asg (.nm 2) (.lst (.cons (.idx (.var 0) (.neg (.cst (.int 1)))) .nil))) .nil)
    (.cons (.iff (.cmp .eq (.var 1) (.cst (.str "let")))
     (.cons (.ret (.bin .add (.cal iL (.cons (.idx (.var 0) (.cst (.int 2))) .nil)) (.lc (.var 6) [6] (.nm 6) .val (.cons (.cal iL (.cons (.idx (.var 0) (.cst (.int 3))) .nil)) .nil) (.cons (.cmp .ne (.var 6) (.idx (.var 0) (.cst (.int 1)))) .nil)))) .nil)
     (.cons (.iff (.cmp .eq (.var 1) (.cst (.str "grow")))
      (.cons (.asg (.nm 2) (.lst (.cons (.idx (.var 0) (.cst (.int 2))) (.cons (.idx (.var 0) (.cst (.int 3))) .nil)))) .nil)
      (.cons (.asg (.nm 2) (.lst .nil)) .nil)) .nil)) .nil)) .nil)) .nil)) (g__law_free_3 iL)
def g__law_free_1 (iL : Nat) : Sms := .cons (.iff (.or (.cmp .eq (.var 1) (.cst (.str "var"))) (.cmp .eq (.var 1) (.cst (.str "upto"))))
  (.cons (.ret (.lst (.cons (.idx (.var 0) (.cst (.int 1))) .nil))) .nil)
  .nil) (g__law_free_2 iL)
def g__law_free (iL : Nat) : Sms := .cons (.asg (.nm 1) (.idx (.var 0) (.cst (.int 0)))) (g__law_free_1 iL)
def isV : Vl → Bool
  | .int _ => true
  | .tup _ => false
theorem sIx_neg (n : Nat) (d : Nat) : HT.sIx (n + 1) d (some (-1)) = n := by
  simp [HT.sIx]
  omega
theorem cut_init (x : D) (r : List D) (y : D) : cutD (x :: (r ++ [y])) none (some (-1)) = x :: r := by
  unfold cutD
  rw [HT.sIx_none]
  have e : (x :: (r ++ [y])).length = r.length + 1 + 1 := by simp
  rw [e, sIx_neg]
  simp
theorem atI_neg (x : D) (r : List D) (y : D) : atI (x :: (r ++ [y])) (-1) = some y := by
  have e : (x :: (r ++ [y])).length = r.length + 1 + 1 := by simp
  unfold atI
  rw [e]
  have e2 : (-1 + ((r.length : Int) + 1 + 1)).toNat = r.length + 1 := by omega
  have e3 : (1 : Int) ≤ (r.length : Int) + 1 + 1 := by omega
  simp [ixN, e2, e3]
section
variable {Fs : List Fn} {G : List D} {w k n iL : Nat}
theorem pk_map (u : Bool) (l : List Tm) (f : Tm → Tm) : (Tm.pk u (l.map f)).d = .tup [.str (pkH u), .tup (l.map fun t => (f t).d)] := by
  rw [Tm.d, tds_map, List.map_map]
  rfl
/-- what _law_put makes below a head that it does not look at -/
theorem put_tail (hL : Fs[iL]? = some ⟨3, 6, g__law_put iL⟩) {t : Tm} (ht : tok n t) {nm : Str} {o : D} {K : Nat} (f : Tm → Tm) (hb : t.isNam = false)
    (ih : ∀ u ∈ t.parts, ∀ S, wp (run Fs G w (K + 1) iL [u.d, .str nm, o] S) (fun d S' => Ext S S' ∧ d = (f u).d) nE) (S : Sto) :
    wpS (exs (run Fs G w (K + 1)) G w (g__law_put_2 iL) [some t.d, some (.str nm), some o, some (.str t.hd), none, none] S) (lvQ fun d S' => Ext S S' ∧ d = (t.mk (t.parts.map f)).d) nE := by
  cases t with
  | nam _ _ => cases hb
  | lf h r =>
    cases n <;>
    · rcases mem_LH ht.1 with rfl | rfl | rfl | rfl <;>
      · simp [g__law_put_2, g__law_put_3, g__law_put_4, g__law_put_5, g__law_put_6, Tm.hd, LIM, Tm.mk]
        exact Ext.refl _
  | self =>
    simp [g__law_put_2, g__law_put_3, g__law_put_4, g__law_put_5, g__law_put_6, Tm.hd, LIM, Tm.mk]
    exact Ext.refl _
  | un h r u =>
    cases n with
    | zero => exact ht.elim
    | succ n =>
      have lr := ht.2.1
      have i1 := ih u (by simp [Tm.parts]) S
      rcases mem_UH ht.1 with rfl | rfl | rfl <;>
      · simp [g__law_put_2, g__law_put_3, g__law_put_4, Tm.hd, LIM, Tm.d, cut_init, atI_neg]
        refine wp_use i1 ?_
        rintro d S1 ⟨hx, rfl⟩
        simp [LIM, Tm.mk, Tm.parts, Tm.d]
        exact ⟨by omega, hx⟩
  | lt x a b =>
    have c : cutD [.str "let", .str x, a.d, b.d] none (some 2) = [.str "let", .str x] := cut_take' [.str "let", .str x] [a.d, b.d] 2 rfl
    simp [g__law_put_2, g__law_put_3, g__law_put_4, g__law_put_5, Tm.hd, LIM, Tm.d, c]
    refine wp_use (ih a (by simp [Tm.parts]) S) ?_
    rintro d S1 ⟨hx, rfl⟩
    simp
    refine wp_use (ih b (by simp [Tm.parts]) S1) ?_
    rintro d S2 ⟨hx2, rfl⟩
    simp [LIM, Tm.mk, Tm.parts, Tm.d]
    exact hx.trans hx2
  | gr m a b =>
    have c : cutD [.str "grow", .int m, a.d, b.d] none (some 2) = [.str "grow", .int m] := cut_take' [.str "grow", .int m] [a.d, b.d] 2 rfl
    simp [g__law_put_2, g__law_put_3, g__law_put_4, g__law_put_5, Tm.hd, LIM, Tm.d, c]
    refine wp_use (ih a (by simp [Tm.parts]) S) ?_
    rintro d S1 ⟨hx, rfl⟩
    simp
    refine wp_use (ih b (by simp [Tm.parts]) S1) ?_
    rintro d S2 ⟨hx2, rfl⟩
    simp [LIM, Tm.mk, Tm.parts, Tm.d]
    exact hx.trans hx2
  | pk u l =>
    have l4 := tok_len ht
    simp only [Tm.parts] at l4 ih
    cases u <;>
    · simp [g__law_put_2, Tm.hd, LIM, Tm.d, pkH, tds_map, wipeD]
      refine lc_ix (L := l.map Tm.d) (l.map fun t => (f t).d) S (by simp) (by simp [LIM]; omega) (fun i S1 _ hx => nx_items) (fun i d e S1 hd he hx => ?_) (fun S' hx hg => ?_) (by simp)
      · rw [List.getElem?_map] at hd he
        cases q : l[i]? with
        | none => rw [q] at hd; cases hd
        | some u =>
          rw [q] at hd he
          cases hd
          cases he
          refine ⟨_, rfl, ?_⟩
          simp
          exact ih u (List.mem_of_getElem? q) S1
      · simp [lst_lst hg]
        refine ⟨hx, ?_⟩
        simp [Tm.mk, Tm.parts, Tm.d, tds_map, pkH]
  | wg ws l =>
    cases n with
    | zero => exact ht.elim
    | succ n =>
      have l4 := tok_len ht
      simp only [Tm.parts] at l4 ih
      have wl := wds_len ws (l.map Tm.d) (by simpa using ht.1)
      have wl2 := wds_len ws (l.map fun t => (f t).d) (by simpa using ht.1)
      simp [g__law_put_2, g__law_put_3, Tm.hd, LIM, Tm.d, tds_map, wipeD]
      refine lc_ix (L := wds ws (l.map Tm.d)) (wds ws (l.map fun t => (f t).d)) S (by rw [wl, wl2]; simp) (by rw [wl]; simp [LIM]; omega) (fun i S1 _ hx => nx_items) (fun i d e S1 hd he hx => ?_) (fun S' hx hg => ?_) (by simp)
      · obtain ⟨w1, p, h1, h2, rfl⟩ := wds_get _ _ _ _ hd
        obtain ⟨w2, q, h3, h4, rfl⟩ := wds_get _ _ _ _ he
        rw [h1] at h3
        cases h3
        rw [List.getElem?_map] at h2 h4
        cases z : l[i]? with
        | none => rw [z] at h2; cases h2
        | some u =>
          rw [z] at h2 h4
          cases h2
          cases h4
          refine ⟨_, rfl, ?_⟩
          simp
          refine wp_use (ih u (List.mem_of_getElem? z) S1) ?_
          rintro d S2 ⟨hx2, rfl⟩
          simp [LIM]
          exact hx2
      · simp [lst_lst hg]
        refine ⟨hx, ?_⟩
        simp [Tm.mk, Tm.parts, Tm.d, tds_map]
        rfl
@[simp] theorem y_vl {v : Vl} {S : Sto} : isTy S v.d .int = some (isV v) := by
  cases v <;> simp [Vl.d, isV, isTy]
theorem putsub_spec (hL : Fs[iL]? = some ⟨3, 6, g__law_put iL⟩) {x : Str} (hx : x ∈ XH) (v : Vl) : ∀ (n : Nat) (t : Tm) (S : Sto) (k : Nat), tok n t →
    wp (run Fs G w (k + n + 2) iL [t.d, .str x, v.d] S) (fun d S' => Ext S S' ∧ d = (t.sub x v.d (zOf v)).d) nE := by
  have ns : (x == Str.ofString "self") = false := by rcases mem_XH hx with rfl | rfl | rfl <;> simp
  have ox := ok_XH hx
  intro n
  have main : ∀ (n : Nat) (t : Tm) (S : Sto) (K : Nat), tok n t → (∀ u ∈ t.parts, ∀ S, wp (run Fs G w (K + 1) iL [u.d, .str x, v.d] S) (fun d S' => Ext S S' ∧ d = (u.sub x v.d (zOf v)).d) nE) →
      wp (run Fs G w (K + 2) iL [t.d, .str x, v.d] S) (fun d S' => Ext S S' ∧ d = (t.sub x v.d (zOf v)).d) nE := by
    intro n t S K ht ih
    refine wp_run hL rfl ?_
    have H := hdOk ht
    cases hn : t.isNam with
    | true =>
      cases t with
      | nam u y =>
        have hy : y ∈ XH := by cases n <;> exact ht
        cases u with
        | true =>
          simp [Tm.d, nmH, g__law_put, g__law_put_1, enter, LIM, xh_eq hy hx, ns, ox]
          refine cas_bl (fun q => ?_) fun q => ?_
          · simp [LIM, Tm.sub, q, rpl, Tm.d]
            exact Ext.refl _
          · simp [Tm.sub, q, g__law_put_2, g__law_put_3, g__law_put_4, g__law_put_5, g__law_put_6, LIM]
            exact ⟨Ext.refl _, by simp [Tm.d, nmH]⟩
        | false =>
          simp [Tm.d, nmH, g__law_put, g__law_put_1, enter, LIM, xh_eq hy hx, ns, ox]
          refine cas_bl (fun q => ?_) fun q => ?_
          · have q' : y = x := by simpa using q
            simp only [Tm.sub, q, if_true]
            cases v with
            | tup l =>
              simp [isV, LIM, zOf, rpl, Tm.d, q']
              exact Ext.refl _
            | int i =>
              by_cases h0 : 0 ≤ i
              · by_cases h1 : i ≤ 63
                · simp [isV, d_int, LIM, zOf, rpl, Tm.d, h0, h1, q']
                  exact Ext.refl _
                · simp [isV, d_int, LIM, zOf, rpl, Tm.d, h0, h1, q']
                  exact Ext.refl _
              · simp [isV, d_int, LIM, zOf, rpl, Tm.d, h0, q']
                exact Ext.refl _
          · simp [Tm.sub, q, g__law_put_2, g__law_put_3, g__law_put_4, g__law_put_5, g__law_put_6, LIM]
            exact ⟨Ext.refl _, by simp [Tm.d, nmH]⟩
      | _ => cases hn
    | false =>
      have e2 := H.nam
      rw [hn, Bool.or_eq_false_iff] at e2
      have tl := fun S => put_tail (G := G) (w := w) hL ht (nm := x) (o := v.d) (K := K) _ hn ih S
      by_cases hl : ∃ a b, t = .lt x a b
      · obtain ⟨a, b, rfl⟩ := hl
        have ee : cm2 .eq (.str x) (.str x) S = some true := by rw [xh_eq hx hx]; simp
        simp [Tm.d, g__law_put, g__law_put_1, enter, LIM, ns, ox, ee]
        refine wp_use (ih a (by simp [Tm.parts]) S) ?_
        rintro d S1 ⟨hx1, rfl⟩
        simp [LIM, Tm.sub, Tm.d]
        exact hx1
      · rw [sub_mk x v.d (zOf v) t (fun u y q => by subst q; cases hn) (fun a b q => hl ⟨a, b, q⟩)]
        cases hlt : t.isLet with
        | false =>
          have e3 := H.lt
          rw [hlt] at e3
          have := tl S
          rw [d_hd t] at this ⊢
          simp [g__law_put, g__law_put_1, enter, LIM, H.ok, e2.1, e2.2, e3, ns, ox]
          exact this
        | true =>
          cases t with
          | lt y a b =>
            have hy : y ∈ XH := by
              cases n with
              | zero => exact ht.elim
              | succ n => exact ht.1
            have e4 : (y == x) = false := beq_false_of_ne fun e => hl ⟨a, b, by rw [e]⟩
            have := tl S
            simp only [Tm.d, Tm.hd] at this ⊢
            simp [g__law_put, g__law_put_1, enter, LIM, ns, ox, xh_eq hy hx, e4]
            exact this
          | _ => cases hlt
  induction n with
  | zero => exact fun t S k ht => main 0 t S k ht fun u hu => by rw [tok_parts0 ht] at hu; cases hu
  | succ n ih => exact fun t S k ht => runk (by omega) (main (n + 1) t S (k + n + 1) ht fun u hu S => ih u S k (tok_parts ht hu))
theorem putself_spec (hL : Fs[iL]? = some ⟨3, 6, g__law_put iL⟩) (s : Tm) : ∀ (n : Nat) (t : Tm) (S : Sto) (k : Nat), tok n t →
    wp (run Fs G w (k + n + 2) iL [t.d, .str "self", s.d] S) (fun d S' => Ext S S' ∧ d = (Tm.wi s t).d) nE := by
  intro n
  have main : ∀ (n : Nat) (t : Tm) (S : Sto) (K : Nat), tok n t → (∀ u ∈ t.parts, ∀ S, wp (run Fs G w (K + 1) iL [u.d, .str "self", s.d] S) (fun d S' => Ext S S' ∧ d = (Tm.wi s u).d) nE) →
      wp (run Fs G w (K + 2) iL [t.d, .str "self", s.d] S) (fun d S' => Ext S S' ∧ d = (Tm.wi s t).d) nE := by
    intro n t S K ht ih
    refine wp_run hL rfl ?_
    have H := hdOk ht
    cases hs : t.isSelf with
    | true =>
      cases t with
      | self =>
        simp [Tm.d, g__law_put, g__law_put_1, enter, Tm.wi]
        exact Ext.refl _
      | _ => cases hs
    | false =>
      have e1 := H.self
      rw [hs] at e1
      cases hg : t.isGr with
      | true =>
        cases t with
        | gr m a b =>
          simp [Tm.d, g__law_put, g__law_put_1, enter]
          refine wp_use (ih a (by simp [Tm.parts]) S) ?_
          rintro d S1 ⟨hx1, rfl⟩
          simp [LIM, Tm.wi, Tm.d]
          exact hx1
        | _ => cases hg
      | false =>
        have e2 := H.gr
        rw [hg] at e2
        rw [wi_mk s t hs hg]
        cases hn : t.isNam with
        | true =>
          cases t with
          | nam u y =>
            cases u <;>
            · simp [Tm.d, nmH, g__law_put, g__law_put_1, enter, g__law_put_2, g__law_put_3, g__law_put_4, g__law_put_5, g__law_put_6, LIM, Tm.mk]
              exact Ext.refl _
          | _ => cases hn
        | false =>
          have := put_tail (G := G) (w := w) hL ht (nm := "self") (o := s.d) (K := K) _ hn ih S
          rw [d_hd t] at this ⊢
          simp [g__law_put, g__law_put_1, enter, H.ok, e1, e2]
          exact this
  induction n with
  | zero => exact fun t S k ht => main 0 t S k ht fun u hu => by rw [tok_parts0 ht] at hu; cases hu
  | succ n ih => exact fun t S k ht => runk (by omega) (main (n + 1) t S (k + n + 1) ht fun u hu S => ih u S k (tok_parts ht hu))
end
end Mx
set_option Elab.async false
set_option linter.all false
set_option maxRecDepth 100000
set_option maxHeartbeats 8000000
namespace Mx
open PySem L2
theorem len_flat {α : Type} {B : Nat} : ∀ l : List (List α), (∀ x ∈ l, x.length ≤ B) → l.flatten.length ≤ l.length * B
  | [], _ => by simp
  | x :: l, h => by
    have h1 := h x List.mem_cons_self
    have h2 := len_flat l fun y hy => h y (List.mem_cons_of_mem _ hy)
    rw [List.flatten_cons, List.length_append, List.length_cons, Nat.succ_mul]
    omega
theorem free_len : ∀ (n : Nat) (t : Tm), tok n t → t.free.length ≤ 4 ^ n := by
  intro n
  induction n with
  | zero => intro t ht; cases t with
    | lf _ _ => simp [Tm.free]
    | self => simp [Tm.free]
    | nam _ _ => simp [Tm.free]
    | _ => exact ht.elim
  | succ n ih =>
    intro t ht
    have h4 : 4 ^ (n + 1) = 4 * 4 ^ n := by rw [Nat.pow_succ]; omega
    have h1 : 1 ≤ 4 ^ n := Nat.one_le_pow _ _ (by decide)
    have l4 := tok_len ht
    have ps : ∀ l : List Tm, l.length ≤ 4 → (∀ u ∈ l, u.free.length ≤ 4 ^ n) → (Tm.frees l).length ≤ 4 ^ (n + 1) := by
      intro l hl hu
      rw [frees_map, h4]
      refine Nat.le_trans (len_flat (B := 4 ^ n) _ fun x hx => ?_) (Nat.mul_le_mul_right _ (by simpa using hl))
      obtain ⟨u, h, rfl⟩ := List.mem_map.mp hx
      exact hu u h
    cases t with
    | lf _ _ => simp [Tm.free]
    | self => simp [Tm.free]
    | nam _ _ => simp [Tm.free]; omega
    | un h r u => rw [Tm.free]; have := ih u ht.2.2.2; omega
    | lt x a b =>
      rw [Tm.free, List.length_append]
      have := ih a ht.2.1
      have := ih b ht.2.2
      have := List.length_filter_le (· != x) b.free
      omega
    | gr m a b =>
      rw [Tm.free, List.length_append]
      have := ih a ht.2.1
      have := ih b ht.2.2
      omega
    | pk u l => rw [Tm.free]; exact ps l l4 fun u hu => ih u (ht.2 u hu)
    | wg ws l => rw [Tm.free]; exact ps l l4 fun u hu => ih u (ht.2.2.2 u hu)
theorem free_XH : ∀ (n : Nat) (t : Tm), tok n t → ∀ y ∈ t.free, y ∈ XH := by
  intro n
  induction n with
  | zero => intro t ht; cases t with
    | lf _ _ => simp [Tm.free]
    | self => simp [Tm.free]
    | nam u x => intro y hy; simp [Tm.free] at hy; subst hy; exact ht
    | _ => exact ht.elim
  | succ n ih =>
    intro t ht y hy
    have ps : ∀ l : List Tm, (∀ u ∈ l, tok n u) → y ∈ Tm.frees l → y ∈ XH := by
      intro l hl h
      rw [frees_map] at h
      obtain ⟨m, hm, hz⟩ := List.mem_flatten.mp h
      obtain ⟨u, hu, rfl⟩ := List.mem_map.mp hm
      exact ih u (hl u hu) y hz
    cases t with
    | lf _ _ => simp [Tm.free] at hy
    | self => simp [Tm.free] at hy
    | nam u x => simp [Tm.free] at hy; subst hy; exact ht
    | un h r u => rw [Tm.free] at hy; exact ih u ht.2.2.2 y hy
    | lt x a b =>
      rw [Tm.free, List.mem_append, List.mem_filter] at hy
      rcases hy with h | h
      · exact ih a ht.2.1 y h
      · exact ih b ht.2.2 y h.1
    | gr m a b =>
      rw [Tm.free, List.mem_append] at hy
      rcases hy with h | h
      · exact ih a ht.2.1 y h
      · exact ih b ht.2.2 y h
    | pk u l => rw [Tm.free] at hy; exact ps l ht.2 hy
    | wg ws l => rw [Tm.free] at hy; exact ps l ht.2.2.2 hy
section
variable {Fs : List Fn} {G : List D} {w k n iL : Nat}
theorem o_addR' {S : Sto} {a b : Nat} : op2 .add (.ref a) (.ref b) S = (mutOf S a).bind fun x => (mutOf S b).bind fun y => if x.length + y.length ≤ LIM then some (D.ref S.length, S ++ [Ob.lst (x ++ y)]) else none := by
  show (match mutOf S a, mutOf S b with
    | some x, some y => if x.length + y.length ≤ LIM then some (D.ref S.length, S ++ [Ob.lst (x ++ y)]) else none
    | _, _ => none) = _
  cases mutOf S a <;> cases mutOf S b <;> rfl
/-- a comprehension that keeps some -/
theorem lc_keep {E : Exn → Sto → Prop} {Q : D → Sto → Prop} {t : Tg} {it : Itr} {el tst : Rho → Sto → Mo D} {ρ : Rho} {α : Type} (xs : List α) (f g : α → D) (p : α → Bool) (S : Sto) (hL : xs.length < LIM)
    (hnx : ∀ (i : Nat) S1, i ≤ xs.length → Ext S S1 → nxt it i S1 = some (xs.map f)[i]?)
    (step : ∀ (i : Nat) x S1, xs[i]? = some x → Ext S S1 → ∃ ρ1, asgT t (f x) ρ = some ρ1 ∧ wp (tst ρ1 S1) (fun b S2 => Ext S1 S2 ∧ b = .bl (p x)) nE ∧ ∀ S2, p x = true → Ext S1 S2 → wp (el ρ1 S2) (fun y S3 => Ext S2 S3 ∧ y = g x) nE)
    (hQ : ∀ S', Ext S S' → S'[S.length]? = some (.lst ((xs.filter p).map g)) → Q (.ref S.length) S') {n : Nat} (hn : xs.length + 1 ≤ n) : wp (lcL el tst t it ρ S.length n 0 (S ++ [.lst []])) Q E := by
  refine lc_core (L := xs.map f) (fun i acc => acc = ((xs.take i).filter p).map g) S (by simpa using hL) (fun i acc hi h => ?_) (fun i S1 h hx => hnx i S1 (by simpa using h) hx) rfl (fun i d S1 acc hd hx ha => ?_) (fun S' acc hx hk ha => ?_) n (by simpa using hn)
  · rw [h, List.length_map]
    exact Nat.le_trans (List.length_filter_le _ _) (by simp; omega)
  · rw [List.getElem?_map] at hd
    cases q : xs[i]? with
    | none => rw [q] at hd; cases hd
    | some x =>
      rw [q] at hd
      cases hd
      obtain ⟨ρ1, e1, e2, e3⟩ := step i x S1 q hx
      refine ⟨ρ1, e1, wp_mono e2 (fun b S2 h => ⟨h.1, p x, h.2, ?_⟩) fun _ _ z => z⟩
      cases hp : p x with
      | true =>
        rw [if_pos rfl]
        refine wp_mono (e3 S2 hp h.1) (fun y S3 h2 => ⟨h2.1, ?_⟩) fun _ _ z => z
        rw [ha, h2.2, List.take_add_one, q]
        simp [hp]
      | false =>
        rw [if_neg (by decide)]
        rw [ha, List.take_add_one, q]
        simp [hp]
  · rw [List.length_map, List.take_length] at ha
    subst ha
    exact hQ S' hx hk
theorem lawfree_loop (hL : Fs[iL]? = some ⟨1, 7, g__law_free iL⟩) {n : Nat} (hn : n ≤ 8) {L : List Tm} (hl4 : L.length ≤ 4) (ht : ∀ u ∈ L, tok n u) {K : Nat} (D1 : D) (h1 : Option D)
    (ih : ∀ u ∈ L, ∀ S, wp (run Fs G w (K + 1) iL [u.d] S) (fun d S' => NewL S S' d (u.free.map .str)) nE) {S S1 : Sto} {d : D} (hp : NewL S S1 d (L.map Tm.d)) (x5 x6 : Option D) :
    wpS (exs (run Fs G w (K + 1)) G w (g__law_free_3 iL) [some D1, h1, some d, none, none, x5, x6] S1) (lvQ fun d S' => NewL S S' d ((Tm.frees L).map .str)) nE := by
  obtain ⟨hx1, r, rfl, hr, hg⟩ := hp
  have lr := lt_of_get hg
  simp [g__law_free_3, g__law_free_4, LIM]
  have e0 : lstOf (S1 ++ [Ob.lst []]) r = some (L.map Tm.d) := by rw [lst_app lr]; exact lst_lst hg
  simp [e0]
  have flen : ∀ i, (Tm.frees (L.take i)).length ≤ 4 * 4 ^ n := by
    intro i
    rw [frees_map]
    refine Nat.le_trans (len_flat (B := 4 ^ n) _ fun x hx => ?_) (Nat.mul_le_mul_right _ (by simp; omega))
    obtain ⟨u, h, rfl⟩ := List.mem_map.mp hx
    exact free_len n u (ht u (List.mem_of_mem_take h))
  have h8 : 4 ^ n ≤ 4 ^ 8 := Nat.pow_le_pow_right (by decide) hn
  refine forL_live (l := L.map Tm.d) (fun i ρ S' => Ext S1 S' ∧ S'[S1.length]? = some (.lst ((Tm.frees (L.take i)).map D.str)) ∧ ∃ z, ρ = [some D1, h1, some (.ref r), some (.ref S1.length), z, x5, x6])
    (fun i ρ S' q => q.1.lst (lst_lst hg)) ?_ ?_ _ 0 _ _ (by simp [lenI, e0]) (by omega) ⟨Ext.app _ _, by simp [Tm.frees], _, rfl⟩
  · rintro i ρ S' d hd ⟨hx, hf, z, rfl⟩
    rw [List.getElem?_map] at hd
    cases q : L[i]? with
    | none => rw [q] at hd; cases hd
    | some u =>
      rw [q] at hd
      cases hd
      have il := (List.getElem?_eq_some_iff.mp q).1
      refine ⟨_, rfl, ?_⟩
      simp [lst_lst hf]
      refine wp_use (ih u (List.mem_of_getElem? q) S') ?_
      rintro d2 S2 ⟨hx2, r2, rfl, hr2, hg2⟩
      have hf2 := hx2.at hf
      have b1 := flen i
      have b2 := free_len n u (ht u (List.mem_of_getElem? q))
      simp [mut_lst hf2, mut_lst hg2, LIM]
      refine ⟨by omega, (hx.trans hx2).set (Nat.le_refl _) _, ?_⟩
      rw [List.getElem?_set_self (lt_of_get hf2)]
      have e3 : Tm.frees (L.take (i + 1)) = Tm.frees (L.take i) ++ u.free := by
        rw [frees_map, frees_map, List.take_add_one, q]
        simp
      rw [e3]
      simp
  · rintro ρ S' ⟨hx, hf, z, rfl⟩
    rw [List.length_map, List.take_length] at hf
    simp [g__law_free_5]
    exact ⟨hx1.trans hx, _, rfl, hx1.len, hf⟩
theorem lawfree_spec (hL : Fs[iL]? = some ⟨1, 7, g__law_free iL⟩) : ∀ (n : Nat) (t : Tm) (S : Sto) (k : Nat), n ≤ 8 → tok n t →
    wp (run Fs G w (k + n + 2) iL [t.d] S) (fun d S' => NewL S S' d (t.free.map .str)) nE := by
  intro n
  have main : ∀ (n : Nat) (t : Tm) (S : Sto) (K : Nat), n ≤ 8 → tok n t → (∀ u ∈ t.parts, ∀ S, wp (run Fs G w (K + 1) iL [u.d] S) (fun d S' => NewL S S' d (u.free.map .str)) nE) →
      wp (run Fs G w (K + 2) iL [t.d] S) (fun d S' => NewL S S' d (t.free.map .str)) nE := by
    intro n t S K hn8 ht ih
    refine wp_run hL rfl ?_
    have l4 := tok_len ht
    have go : ∀ {m : Nat} {L : List Tm}, m ≤ 8 → L.length ≤ 4 → (∀ u ∈ L, tok m u) → (∀ u ∈ L, u ∈ t.parts) → t.free = Tm.frees L → ∀ {S1 : Sto} {d : D} (D1 : D) (h1 x5 x6 : Option D), NewL S S1 d (L.map Tm.d) →
        wpS (exs (run Fs G w (K + 1)) G w (g__law_free_3 iL) [some D1, h1, some d, none, none, x5, x6] S1) (lvQ fun d S' => NewL S S' d (t.free.map .str)) nE := by
      intro m L hm h4 hk hp e S1 d D1 h1 x5 x6 q
      rw [e]
      exact lawfree_loop hL hm h4 hk D1 h1 (fun u hu => ih u (hp u hu)) q x5 x6
    have none_ : ∀ (e : t.free = []) {S1 : Sto} {d : D} (D1 : D) (h1 x5 x6 : Option D), NewL S S1 d [] →
        wpS (exs (run Fs G w (K + 1)) G w (g__law_free_3 iL) [some D1, h1, some d, none, none, x5, x6] S1) (lvQ fun d S' => NewL S S' d (t.free.map .str)) nE := fun e S1 d D1 h1 x5 x6 q =>
      go (m := 0) (L := []) (by omega) (by simp) (fun _ h => by cases h) (fun _ h => by cases h) (by rw [e, Tm.frees]) D1 h1 x5 x6 q
    cases t with
    | nam u y =>
      have hy : y ∈ XH := by cases n <;> exact ht
      cases u <;>
      · simp [Tm.d, nmH, g__law_free, g__law_free_1, enter, LIM, Tm.free]
        exact NewL.app
    | lf h r =>
      cases n <;>
      · rcases mem_LH ht.1 with rfl | rfl | rfl | rfl <;>
        · simp [Tm.d, g__law_free, g__law_free_1, g__law_free_2, enter, LIM]
          exact none_ (by simp [Tm.free]) _ _ _ _ NewL.app
    | self =>
      simp [Tm.d, g__law_free, g__law_free_1, g__law_free_2, enter, LIM]
      exact none_ (by simp [Tm.free]) _ _ _ _ NewL.app
    | un h r u =>
      cases n with
      | zero => exact ht.elim
      | succ n =>
        rcases mem_UH ht.1 with rfl | rfl | rfl <;>
        · simp [Tm.d, g__law_free, g__law_free_1, g__law_free_2, enter, LIM, atI_neg]
          exact go (m := n) (L := [u]) (by omega) (by simp) (fun v h => by simp at h; subst h; exact ht.2.2.2) (fun v h => by simpa [Tm.parts] using h) (by simp [Tm.free, Tm.frees]) _ _ _ _ NewL.app
    | gr m a b =>
      cases n with
      | zero => exact ht.elim
      | succ n =>
        simp [Tm.d, g__law_free, g__law_free_1, g__law_free_2, enter, LIM]
        exact go (m := n) (L := [a, b]) (by omega) (by simp) (fun v h => by simp at h; rcases h with rfl | rfl; exact ht.2.1; exact ht.2.2) (fun v h => by simpa [Tm.parts] using h) (by simp [Tm.free, Tm.frees]) _ _ _ _ NewL.app
    | lt x a b =>
      cases n with
      | zero => exact ht.elim
      | succ n =>
        have hx : x ∈ XH := ht.1
        have la := free_len n a ht.2.1
        have lb := free_len n b ht.2.2
        have h8 : 4 ^ n ≤ 4 ^ 8 := Nat.pow_le_pow_right (by decide) (by omega)
        simp [Tm.d, g__law_free, g__law_free_1, g__law_free_2, enter, LIM]
        refine wp_use (ih a (by simp [Tm.parts]) S) ?_
        rintro d S1 ⟨hx1, r1, rfl, hr1, hg1⟩
        simp
        refine wp_use (ih b (by simp [Tm.parts]) S1) ?_
        rintro d S2 ⟨hx2, r2, rfl, hr2, hg2⟩
        simp [lst_lst hg2, wipeD]
        refine lc_keep (α := Str) b.free D.str D.str (fun y => y != x) S2 (by simp [LIM]; omega) (fun i S3 _ hx => nx_live hg2 hx) (fun i y S3 hy hx3 => ?_) (fun S3 hx3 hg3 => ?_) (by simp [lenI, lst_lst hg2])
        · have oy := ok_XH (free_XH n b ht.2.2 y (List.mem_of_getElem? hy))
          refine ⟨_, rfl, ?_, fun S4 _ hx4 => ?_⟩
          · have e : cm2 .ne (.str y) (.str x) S3 = some (y != x) := by
              rfl
            simp only [evt, wp_cmp]
            simp [e]
            exact Ext.refl _
          · simp
            exact Ext.refl _
        · have m1 := mut_lst ((hx2.trans hx3).at hg1)
          have b1 := List.length_filter_le (fun y => y != x) b.free
          simp [o_addR', m1, mut_lst hg3, LIM]
          refine ⟨by omega, ((hx1.trans hx2).trans hx3).trans (Ext.app _ _), _, rfl, ?_, ?_⟩
          · have := (hx1.trans hx2).trans hx3
            exact this.len
          · simp [Tm.free]
    | pk u l =>
      cases n with
      | zero => exact ht.elim
      | succ n =>
        cases u <;>
        · simp [Tm.d, pkH, g__law_free, g__law_free_1, g__law_free_2, enter, LIM, tds_map]
          exact go (m := n) (L := l) (by omega) l4 ht.2 (fun v h => h) (by simp [Tm.free]) _ _ _ _ NewL.app
    | wg ws l =>
      cases n with
      | zero => exact ht.elim
      | succ n =>
        have wl := wds_len ws (l.map Tm.d) (by simpa using ht.1)
        simp [Tm.d, g__law_free, g__law_free_1, g__law_free_2, enter, LIM, tds_map, wipeD]
        refine lc_ix (L := wds ws (l.map Tm.d)) (l.map Tm.d) S wl.symm (by rw [wl]; have := ht.2.1; simp [LIM]; omega) (fun i S1 _ hx => nx_items) (fun i d e S1 hd he hx => ?_) (fun S' hx hg => ?_) (Nat.le_refl _)
        · obtain ⟨a, b, h1, h2, rfl⟩ := wds_get _ _ _ _ hd
          refine ⟨_, rfl, ?_⟩
          rw [he] at h2
          cases h2
          simp
          exact Ext.refl _
        · simp
          exact go (m := n) (L := l) (by omega) l4 ht.2.2.2 (fun v h => h) (by simp [Tm.free]) _ _ _ _ ⟨hx, _, rfl, Nat.le_refl _, hg⟩
  induction n with
  | zero => exact fun t S k hn ht => main 0 t S k hn ht fun u hu => by rw [tok_parts0 ht] at hu; cases hu
  | succ n ih => exact fun t S k hn ht => runk (by omega) (main (n + 1) t S (k + n + 1) hn ht fun u hu S => ih u S k (by omega) (tok_parts ht hu))
end
end Mx
set_option Elab.async false
set_option linter.all false
set_option maxRecDepth 100000
set_option maxHeartbeats 8000000
namespace Mx
open PySem L2
/-! what the law draws -/
@[simp] theorem c_isB {x y : Bool} {S : Sto} : cm2 .is (.bl x) (.bl y) S = some (decide (x = y)) := rfl
@[simp] theorem c_isnotB {x y : Bool} {S : Sto} : cm2 .isnot (.bl x) (.bl y) S = some (!decide (x = y)) := rfl
@[simp] theorem c_notin {S : Sto} {a b : D} : cm2 .notin a b S = ((seqOf S b).bind fun l => isin S a l).map (!·) := rfl
@[simp] theorem c_eqRR {S : Sto} {a b : Nat} : cm2 .eq (.ref a) (.ref b) S = eqC S (.ref a) (.ref b) := rfl
@[simp] theorem c_neRR {S : Sto} {a b : Nat} : cm2 .ne (.ref a) (.ref b) S = (eqC S (.ref a) (.ref b)).map (!·) := rfl
@[simp] theorem lst_new {S : Sto} {x : List D} : lstOf (S ++ [.lst x]) S.length = some x := lst_app2
@[simp] theorem mut_new {S : Sto} {x : List D} : mutOf (S ++ [.lst x]) S.length = some x := by simp [mutOf]
@[simp] theorem atI_4 {a b c d e : D} {l : List D} : atI (a :: b :: c :: d :: e :: l) 4 = some e := by
  have h : (4 : Int) < ((l.length + 1 + 1 + 1 + 1 + 1 : Nat) : Int) := by omega
  simp only [atI, ixN, List.length_cons, h]
  rfl
def g__law_value (iT iV : Nat) : Sms :=
 (.cons (.iff (.or (.cmp .eq (.var 1) (.cst (.int 0))) (.cmp .gt (.cal iT (.cons (.var 0) (.cons (.cst (.int 3)) .nil))) (.cst (.int 0))))
  (.cons (.ret (.bin .sub (.cal iT (.cons (.var 0) (.cons (.cst (.int 5)) .nil))) (.cst (.int 1)))) .nil)
  .nil) <|
 (.cons (.ret (.bi .tuple (.cons (.lc (.cal iV (.cons (.var 0) (.cons (.bin .sub (.var 1) (.cst (.int 1))) .nil))) [2] (.nm 2) .rng (.cons (.cal iT (.cons (.var 0) (.cons (.cst (.int 4)) .nil))) .nil) .nil) .nil))) .nil))
def g__law_test_6 (iT iV iE : Nat) : Sms := .cons (.ret (.tup (.cons (.cst (.str "less")) (.cons (.cal iT (.cons (.var 0) (.cons (.cst (.int 6)) .nil))) .nil)))) .nil
def g__law_test_5 (iT iV iE : Nat) : Sms := .cons (.iff (.cmp .eq (.var 2) (.cst (.int 7)))
  (.cons (.ret (.idx (.lst (.cons (.tup (.cons (.cst (.str "even")) .nil)) (.cons (.tup (.cons (.cst (.str "rising")) .nil)) .nil))) (.cal iT (.cons (.var 0) (.cons (.cst (.int 2)) .nil))))) .nil)
  .nil) (g__law_test_6 iT iV iE)
def g__law_test_4 (iT iV iE : Nat) : Sms := .cons (.iff (.cmp .eq (.var 2) (.cst (.int 6)))
  (.cons (.ret (.tup (.cons (.cst (.str "size")) (.cons (.cal iT (.cons (.var 0) (.cons (.cst (.int 4)) .nil))) .nil)))) .nil)
  .nil) (g__law_test_5 iT iV iE)
def g__law_test_3 (iT iV iE : Nat) : Sms := .cons (.iff (.cmp .eq (.var 2) (.cst (.int 5)))
  (.cons (.ret (.tup (.cons (.cst (.str "equals")) (.cons (.cal iV (.cons (.var 0) (.cons (.cst (.int 1)) .nil))) .nil)))) .nil)
  .nil) (g__law_test_4 iT iV iE)
def g__law_test_2 (iT iV iE : Nat) : Sms := .cons (.iff (.an (.cmp .gt (.var 1) (.cst (.int 0))) (.cmp .lt (.var 2) (.cst (.int 5))))
  (.cons (.ret (.tup (.cons (.idx (.lst (.cons (.cst (.str "both")) (.cons (.cst (.str "either")) .nil))) (.bin .sub (.var 2) (.cst (.int 3)))) (.cons (.cal iE (.cons (.var 0) (.cons (.bin .sub (.var 1) (.cst (.int 1))) .nil))) (.cons (.cal iE (.cons (.var 0) (.cons (.bin .sub (.var 1) (.cst (.int 1))) .nil))) .nil))))) .nil)
  .nil) (g__law_test_3 iT iV iE)
def g__law_test_1 (iT iV iE : Nat) : Sms := .cons (.iff (.an (.cmp .gt (.var 1) (.cst (.int 0))) (.cmp .lt (.var 2) (.cst (.int 3))))
  (.cons (.ret (.tup (.cons (.idx (.lst (.cons (.cst (.str "not")) (.cons (.cst (.str "all")) (.cons (.cst (.str "any")) .nil)))) (.var 2)) (.cons (.cal iE (.cons (.var 0) (.cons (.bin .sub (.var 1) (.cst (.int 1))) .nil))) .nil)))) .nil)
  .nil) (g__law_test_2 iT iV iE)
def g__law_test (iT iV iE : Nat) : Sms := .cons (.asg (.nm 2) (.cal iT (.cons (.var 0) (.cons (.cst (.int 9)) .nil)))) (g__law_test_1 iT iV iE)
def g__law_operation (iT : Nat) : Sms :=
 (.cons (.asg (.nm 1) (.cal iT (.cons (.var 0) (.cons (.cst (.int 7)) .nil)))) <|
 (.cons (.iff (.cmp .lt (.var 1) (.cst (.int 3)))
  (.cons (.ret (.tup (.cons (.idx (.lst (.cons (.cst (.str "add")) (.cons (.cst (.str "mul")) (.cons (.cst (.str "mod")) .nil)))) (.var 1)) (.cons (.bin .add (.cst (.int 1)) (.cal iT (.cons (.var 0) (.cons (.cst (.int 3)) .nil)))) .nil)))) .nil)
  .nil) <|
 (.cons (.ret (.tup (.cons (.idx (.lst (.cons (.cst (.str "sum")) (.cons (.cst (.str "size")) (.cons (.cst (.str "sort")) (.cons (.cst (.str "reverse")) (.cons (.cst (.str "flat")) .nil)))))) (.cal iT (.cons (.var 0) (.cons (.cst (.int 5)) .nil)))) .nil))) .nil)))
def g__law_leaf_6 (iT iV : Nat) : Sms := .cons (.ret (.tup (.cons (.cst (.str "const")) (.cons (.cal iV (.cons (.var 0) (.cons (.cst (.int 1)) .nil))) .nil)))) .nil
def g__law_leaf_5 (iT iV : Nat) : Sms := .cons (.iff (.an (.cmp .eq (.var 3) (.cst (.int 4))) (.cmp .eq (.cal iT (.cons (.var 0) (.cons (.cst (.int 3)) .nil))) (.cst (.int 0))))
  (.cons (.ret (.tup (.cons (.cst (.str "discard")) .nil))) .nil)
  .nil) (g__law_leaf_6 iT iV)
def g__law_leaf_4 (iT iV : Nat) : Sms := .cons (.iff (.cmp .eq (.var 3) (.cst (.int 3)))
  (.cons (.ret (.tup (.cons (.cst (.str "shuffle")) (.cons (.bi .tuple (.cons (.lc (.cal iT (.cons (.var 0) (.cons (.cst (.int 3)) .nil))) [5] (.nm 5) .rng (.cons (.cal iT (.cons (.var 0) (.cons (.cst (.int 5)) .nil))) .nil) .nil) .nil)) .nil)))) .nil)
  .nil) (g__law_leaf_5 iT iV)
def g__law_leaf_3 (iT iV : Nat) : Sms := .cons (.iff (.cmp .eq (.var 3) (.cst (.int 2)))
  (.cons (.asg (.nm 4) (.bin .sub (.cal iT (.cons (.var 0) (.cons (.cst (.int 4)) .nil))) (.cst (.int 1)))) <|
  (.cons (.ret (.tup (.cons (.cst (.str "range")) (.cons (.var 4) (.cons (.bin .add (.var 4) (.cal iT (.cons (.var 0) (.cons (.cst (.int 3)) .nil)))) .nil))))) .nil))
  .nil) (g__law_leaf_4 iT iV)
def g__law_leaf_2 (iT iV : Nat) : Sms := .cons (.iff (.an (.cmp .eq (.var 3) (.cst (.int 1))) (.cmp .gt (.bi .len (.cons (.var 1) .nil)) (.cst (.int 0))))
  (.cons (.ret (.tup (.cons (.idx (.lst (.cons (.cst (.str "var")) (.cons (.cst (.str "upto")) .nil))) (.cal iT (.cons (.var 0) (.cons (.cst (.int 2)) .nil)))) (.cons (.idx (.var 1) (.cal iT (.cons (.var 0) (.cons (.bi .len (.cons (.var 1) .nil)) .nil)))) .nil)))) .nil)
  .nil) (g__law_leaf_3 iT iV)
def g__law_leaf_1 (iT iV : Nat) : Sms := .cons (.iff (.an (.cmp .eq (.var 3) (.cst (.int 0))) (.var 2))
  (.cons (.ret (.tup (.cons (.cst (.str "self")) .nil))) .nil)
  .nil) (g__law_leaf_2 iT iV)
def g__law_leaf (iT iV : Nat) : Sms := .cons (.asg (.nm 3) (.cal iT (.cons (.var 0) (.cons (.cst (.int 7)) .nil)))) (g__law_leaf_1 iT iV)
def g__law_term_11 (iT iE iO iF iM : Nat) : Sms := .cons (.ret (.tup (.cons (.cst (.str "tuple")) (.cons (.slc (.tup (.cons (.var 5) (.cons (.var 8) (.cons (.var 5) .nil)))) .nil (.cons (.cal iT (.cons (.var 0) (.cons (.cst (.int 4)) .nil))) .nil)) .nil)))) .nil
def g__law_term_10 (iT iE iO iF iM : Nat) : Sms := .cons (.iff (.cmp .eq (.var 4) (.cst (.int 8)))
  (.cons (.asg (.nm 9) (.tup (.cons (.tup (.cons (.bin .add (.cst (.int 1)) (.cal iT (.cons (.var 0) (.cons (.cst (.int 3)) .nil)))) (.cons (.var 5) .nil))) (.cons (.tup (.cons (.bin .add (.cst (.int 1)) (.cal iT (.cons (.var 0) (.cons (.cst (.int 3)) .nil)))) (.cons (.var 8) .nil))) (.cons (.tup (.cons (.bin .add (.cst (.int 1)) (.cal iT (.cons (.var 0) (.cons (.cst (.int 2)) .nil)))) (.cons (.var 5) .nil))) .nil))))) <|
  (.cons (.ret (.tup (.cons (.cst (.str "weigh")) (.cons (.slc (.var 9) .nil (.cons (.bin .add (.cst (.int 1)) (.cal iT (.cons (.var 0) (.cons (.cst (.int 3)) .nil)))) .nil)) .nil)))) .nil))
  .nil) (g__law_term_11 iT iE iO iF iM)
def g__law_term_9 (iT iE iO iF iM : Nat) : Sms := .cons (.iff (.cmp .eq (.var 4) (.cst (.int 7)))
  (.cons (.ret (.tup (.cons (.cst (.str "pick")) (.cons (.slc (.tup (.cons (.var 5) (.cons (.var 8) (.cons (.var 5) .nil)))) .nil (.cons (.bin .add (.cst (.int 1)) (.cal iT (.cons (.var 0) (.cons (.cst (.int 3)) .nil)))) .nil)) .nil)))) .nil)
  .nil) (g__law_term_10 iT iE iO iF iM)
def g__law_term_8 (iT iE iO iF iM : Nat) : Sms := .cons (.asg (.nm 8) (.cal iM (.cons (.var 0) (.cons (.bin .sub (.var 1) (.cst (.int 1))) (.cons (.var 2) (.cons (.var 3) .nil)))))) (g__law_term_9 iT iE iO iF iM)
def g__law_term_7 (iT iE iO iF iM : Nat) : Sms := .cons (.iff (.cmp .eq (.var 4) (.cst (.int 6)))
  (.cons (.ret (.tup (.cons (.cst (.str "grow")) (.cons (.cal iT (.cons (.var 0) (.cons (.cst (.int 4)) .nil))) (.cons (.var 5) (.cons (.cal iM (.cons (.var 0) (.cons (.bin .sub (.var 1) (.cst (.int 1))) (.cons (.var 2) (.cons (.cst (.bl true)) .nil))))) .nil)))))) .nil)
  .nil) (g__law_term_8 iT iE iO iF iM)
def g__law_term_6 (iT iE iO iF iM : Nat) : Sms := .cons (.iff (.cmp .eq (.var 4) (.cst (.int 5)))
  (.cons (.asg (.nm 7) (.idx (.lst (.cons (.cst (.str "x")) (.cons (.cst (.str "y")) (.cons (.cst (.str "abc")) .nil)))) (.cal iT (.cons (.var 0) (.cons (.cst (.int 3)) .nil))))) <|
  (.cons (.ret (.tup (.cons (.cst (.str "let")) (.cons (.var 7) (.cons (.var 5) (.cons (.cal iM (.cons (.var 0) (.cons (.bin .sub (.var 1) (.cst (.int 1))) (.cons (.bin .add (.var 2) (.lst (.cons (.var 7) .nil))) (.cons (.var 3) .nil))))) .nil)))))) .nil))
  .nil) (g__law_term_7 iT iE iO iF iM)
def g__law_term_5 (iT iE iO iF iM : Nat) : Sms := .cons (.iff (.cmp .eq (.var 4) (.cst (.int 4)))
  (.cons (.asg (.nm 6) (.cal iT (.cons (.var 0) (.cons (.cst (.int 2)) .nil)))) <|
  (.cons (.ret (.tup (.cons (.cst (.str "list")) (.cons (.var 6) (.cons (.bin .add (.var 6) (.cal iT (.cons (.var 0) (.cons (.cst (.int 3)) .nil)))) (.cons (.var 5) .nil)))))) .nil))
  .nil) (g__law_term_6 iT iE iO iF iM)
def g__law_term_4 (iT iE iO iF iM : Nat) : Sms := .cons (.iff (.cmp .eq (.var 4) (.cst (.int 3)))
  (.cons (.ret (.tup (.cons (.cst (.str "keep")) (.cons (.cal iE (.cons (.var 0) (.cons (.cst (.int 1)) .nil))) (.cons (.bin .add (.cst (.int 1)) (.cal iT (.cons (.var 0) (.cons (.cst (.int 3)) .nil)))) (.cons (.var 5) .nil)))))) .nil)
  .nil) (g__law_term_5 iT iE iO iF iM)
def g__law_term_3 (iT iE iO iF iM : Nat) : Sms := .cons (.iff (.cmp .eq (.var 4) (.cst (.int 2)))
  (.cons (.ret (.tup (.cons (.cst (.str "map")) (.cons (.cal iO (.cons (.var 0) .nil)) (.cons (.var 5) .nil))))) .nil)
  .nil) (g__law_term_4 iT iE iO iF iM)
def g__law_term_2 (iT iE iO iF iM : Nat) : Sms := .cons (.asg (.nm 5) (.cal iM (.cons (.var 0) (.cons (.bin .sub (.var 1) (.cst (.int 1))) (.cons (.var 2) (.cons (.var 3) .nil)))))) (g__law_term_3 iT iE iO iF iM)
def g__law_term_1 (iT iE iO iF iM : Nat) : Sms := .cons (.iff (.or (.cmp .eq (.var 1) (.cst (.int 0))) (.cmp .lt (.var 4) (.cst (.int 2))))
  (.cons (.ret (.cal iF (.cons (.var 0) (.cons (.var 2) (.cons (.var 3) .nil))))) .nil)
  .nil) (g__law_term_2 iT iE iO iF iM)
def g__law_term (iT iE iO iF iM : Nat) : Sms := .cons (.asg (.nm 4) (.cal iT (.cons (.var 0) (.cons (.cst (.int 10)) .nil)))) (g__law_term_1 iT iE iO iF iM)
section
variable {Fs : List Fn} {G : List D} {w k iT iV iE iO iF iM : Nat}
theorem ge1 {K : Nat} (h : 1 ≤ K) : ∃ j, K = j + 1 := ⟨K - 1, by omega⟩
theorem take_ge (hT : Fs[iT]? = some ⟨2, 2, b_take⟩) {K : Nat} (hK : 1 ≤ K) {S : Sto} {r : Nat} {m : Int} (hm : 0 < m) (h : Rowp S r) :
    wp (run Fs G w K iT [.ref r, .int m] S) (fun d S' => Rowp S' r ∧ Fr r S S' ∧ ∃ x, d = .int x ∧ 0 ≤ x ∧ x < m) nE := by
  obtain ⟨j, rfl⟩ := ge1 hK
  exact take_spec hT hm h
/-- a list of as many as the row tells -/
theorem row_items (hT : Fs[iT]? = some ⟨2, 2, b_take⟩) {m : Int} (h3 : 0 < m) (h3' : m ≤ 1000) {r c K : Nat} (hK : 1 ≤ K) {ρ : Rho} {S : Sto} (h0 : ρ[0]? = some (some (.ref r))) (hc : c ≠ 0) (hr : Rowp S r) {el : Ex} (P : D → Prop)
    (step : ∀ (S : Sto) (j : Nat), Rowp S r → wp (ev (run Fs G w K) G el false ((ρ.set c none).set c (some (.int j))) S) (fun y S' => Rowp S' r ∧ ExtR r S S' ∧ P y) nE) :
    wp (ev (run Fs G w K) G (.lc el [c] (.nm c) .rng (.cons (.cal iT (.cons (.var 0) (.cons (.cst (.int m)) .nil))) .nil) .nil) false ρ S)
      (fun d S' => Rowp S' r ∧ ExtR r S S' ∧ ∃ q acc, d = .ref q ∧ S.length ≤ q ∧ S'[q]? = some (.lst acc) ∧ (∀ y ∈ acc, P y) ∧ (acc.length : Int) < m) nE := by
  simp [h0]
  refine wp_use (take_ge hT hK h3 hr) ?_
  rintro d S1 ⟨hr1, hf, x, rfl, hx0, hx1⟩
  simp [wipeD]
  refine ⟨okR_of (by omega) (by omega), ?_⟩
  refine lc_gen (L := rng 0 x.toNat) (fun j => j = r) (fun S => Rowp S r) (fun _ o => ∃ y, o = some y ∧ P y) S1 (by rw [rng_len]; simp [LIM]; omega) (by have := hr1.lt; omega) (fun _ _ _ => nx_items) (fun S2 o h => h.put (by have := hr1.lt; omega) o) (hr1.app _) ?_ ?_ _ (by simp)
  · intro j d S2 hd hx2 hlt hr2
    obtain ⟨hj, rfl⟩ := rng_get hd
    refine ⟨_, rfl, ?_⟩
    simp only [wp_ok]
    refine ⟨ExtP.refl _ _, hr2, true, rfl, ?_⟩
    rw [if_pos rfl]
    have s := step S2 j hr2
    have e0 : (0 : Int) + (j : Int) = (j : Int) := by omega
    rw [e0]
    refine wp_use s ?_
    rintro y S3 ⟨hr3, hx3, hp⟩
    exact ⟨hx3.toP, hr3, y, rfl, hp⟩
  · intro S2 acc hx2 hr2 hk hl
    have e := hl.each (T := P) fun d y h => by
      obtain ⟨y', h1, h2⟩ := h
      cases h1
      exact h2
    have len := hl.len
    rw [rng_len] at len
    refine ⟨hr2, hf.toR.trans hx2.toR, _, _, rfl, ?_, hk, e, by omega⟩
    rw [hf.len]
    exact Nat.le_refl _
/-- values of the row: not deeper than n, tuples of at most three, integers from -1 to 3 -/
def vg : Nat → Vl → Prop
  | _, .int i => -1 ≤ i ∧ i ≤ 3
  | n + 1, .tup l => l.length ≤ 3 ∧ ∀ v ∈ l, vg n v
  | 0, .tup _ => False
theorem vg_ok : ∀ (n : Nat) (v : Vl), vg n v → VB n v
  | 0, .int _, _ => ⟨trivial, by simp [Vl.nd, ndB]⟩
  | n + 1, .int _, _ => ⟨trivial, by rw [Vl.nd]; exact ndB_pos _⟩
  | 0, .tup _, h => h.elim
  | n + 1, .tup l, h => by
    refine ⟨⟨by have := h.1; omega, fun v hv => (vg_ok n v (h.2 v hv)).1⟩, ?_⟩
    have := nds_le l fun v hv => (vg_ok n v (h.2 v hv)).2
    have h6 : l.length * ndB n ≤ 3 * ndB n := Nat.mul_le_mul_right _ h.1
    rw [Vl.nd, ndB]
    omega
/-- what a def that takes of the row leaves -/
def RQ (r : Nat) (S : Sto) (P : D → Prop) (d : D) (S' : Sto) : Prop := Rowp S' r ∧ ExtR r S S' ∧ P d
theorem lvalue_spec (hV : Fs[iV]? = some ⟨2, 3, g__law_value iT iV⟩) (hT : Fs[iT]? = some ⟨2, 2, b_take⟩) {r : Nat} : ∀ (n K : Nat) (S : Sto), n + 2 ≤ K → Rowp S r →
    wp (run Fs G w K iV [.ref r, .int n] S) (RQ r S fun d => ∃ v, d = v.d ∧ vg n v) nE := by
  have leaf : ∀ (n : Nat) (z : Int), 0 ≤ z → z < 5 → vg n (.int (z - 1)) := fun n z h1 h2 => by cases n <;> (simp only [vg]; omega)
  intro n
  induction n with
  | zero =>
    intro K S hK hr
    obtain ⟨K, rfl⟩ := ge1 (by omega : 1 ≤ K)
    refine wp_run hV rfl ?_
    simp [g__law_value, enter]
    refine wp_use (take_ge hT (by omega) (by decide : (0 : Int) < 5) hr) ?_
    rintro d S1 ⟨hr1, hf, x, rfl, x0, x1⟩
    simp
    exact ⟨hr1, hf.toR, .int (x - 1), by rw [d_int], leaf _ _ x0 x1⟩
  | succ n ih =>
    intro K S hK hr
    obtain ⟨K, rfl⟩ := ge1 (by omega : 1 ≤ K)
    refine wp_run hV rfl ?_
    have n0 : ((n : Int) + 1 == 0) = false := beq_false_of_ne (by omega)
    simp [g__law_value, enter, n0, -wp_lc]
    refine wp_use (take_ge hT (by omega) (by decide : (0 : Int) < 3) hr) ?_
    rintro d S1 ⟨hr1, hf, x, rfl, _⟩
    simp [-wp_lc]
    refine cas_dec (fun _ => ?_) fun _ => ?_
    · simp
      refine wp_use (take_ge hT (by omega) (by decide : (0 : Int) < 5) hr1) ?_
      rintro d S2 ⟨hr2, hf2, y, rfl, y0, y1⟩
      simp
      exact ⟨hr2, hf.toR.trans hf2.toR, .int (y - 1), by rw [d_int], leaf _ _ y0 y1⟩
    · simp [-wp_lc]
      refine wp_use (row_items hT (by decide : (0 : Int) < 4) (by decide) (by omega) rfl (by decide) hr1 (fun d => ∃ v, d = v.d ∧ vg n v) fun S j hS => ?_) ?_
      · simp
        refine wp_use (ih K S (by omega) hS) ?_
        rintro d S2 ⟨hr2, hx, hv⟩
        exact ⟨hr2, hx, hv⟩
      · rintro d S2 ⟨hr2, hx, q, acc, rfl, hq, hg, hP, hl⟩
        obtain ⟨vs, rfl, hvs⟩ := vs_of hP
        rw [List.length_map] at hl
        simp [lst_lst hg]
        exact ⟨hr2, hf.toR.trans hx, .tup vs, by rw [d_tup], by omega, hvs⟩
/-- a test of the row -/
def tg : Te → Prop
  | .eq v => vg 1 v
  | .less i => 0 ≤ i ∧ i ≤ 5
  | .size i => 0 ≤ i ∧ i ≤ 3
  | .even => True
  | .rising => True
  | .no t => tg t
  | .all t => tg t
  | .any t => tg t
  | .both t u => tg t ∧ tg u
  | .either t u => tg t ∧ tg u
theorem dep_pos (t : Te) : 1 ≤ t.dep := by cases t <;> simp [Te.dep]
theorem ltest_spec (hE : Fs[iE]? = some ⟨2, 3, g__law_test iT iV iE⟩) (hV : Fs[iV]? = some ⟨2, 3, g__law_value iT iV⟩) (hT : Fs[iT]? = some ⟨2, 2, b_take⟩) {r : Nat} : ∀ (n K : Nat) (S : Sto), n + 4 ≤ K → Rowp S r →
    wp (run Fs G w K iE [.ref r, .int n] S) (RQ r S fun d => ∃ t, d = t.d ∧ tg t ∧ t.dep ≤ n + 1) nE := by
  -- what is drawn at the end
  have low : ∀ (n K : Nat) (S : Sto) (x : Int), 3 ≤ K → Rowp S r → 0 ≤ x → wpS (exs (run Fs G w K) G w (g__law_test_3 iT iV iE) [some (.ref r), some (.int n), some (.int x)] S) (lvQ (RQ r S fun d => ∃ t, d = t.d ∧ tg t ∧ t.dep ≤ n + 1)) nE := by
    intro n K S x hK hr hx
    have le1 : 1 ≤ n + 1 := by omega
    simp [g__law_test_3]
    refine cas_beq (fun e => ?_) fun _ => ?_
    · simp
      refine wp_use (lvalue_spec hV hT 1 K S (by omega) hr) ?_
      rintro d S1 ⟨hr1, hx1, v, rfl, hv⟩
      simp [LIM]
      exact ⟨hr1, hx1, .eq v, by rw [Te.d], hv, le1⟩
    · simp [g__law_test_4]
      refine cas_beq (fun e => ?_) fun _ => ?_
      · simp
        refine wp_use (take_ge hT (by omega) (by decide : (0 : Int) < 4) hr) ?_
        rintro d S1 ⟨hr1, hf, y, rfl, y0, y1⟩
        simp [LIM]
        exact ⟨hr1, hf.toR, .size y, by rw [Te.d], ⟨y0, by omega⟩, le1⟩
      · simp [g__law_test_5]
        refine cas_beq (fun e => ?_) fun _ => ?_
        · simp [LIM]
          refine wp_use (take_ge hT (by omega) (by decide : (0 : Int) < 2) (hr.app _)) ?_
          rintro d S1 ⟨hr1, hf, y, rfl, y0, y1⟩
          have hg : S1[S.length]? = some (.lst [.tup [.str "even"], .tup [.str "rising"]]) := by
            rw [hf.get _ (by have := hr.lt; omega)]
            simp
          have hx1 : ExtR r S S1 := (Ext.app S _).toR r |>.trans hf.toR
          rcases (by omega : y = 0 ∨ y = 1) with rfl | rfl
          · simp [lst_lst hg]
            exact ⟨hr1, hx1, .even, by rw [Te.d], trivial, le1⟩
          · simp [lst_lst hg]
            exact ⟨hr1, hx1, .rising, by rw [Te.d], trivial, le1⟩
        · simp [g__law_test_6]
          refine wp_use (take_ge hT (by omega) (by decide : (0 : Int) < 6) hr) ?_
          rintro d S1 ⟨hr1, hf, y, rfl, y0, y1⟩
          simp [LIM]
          exact ⟨hr1, hf.toR, .less y, by rw [Te.d], ⟨y0, by omega⟩, le1⟩
  have mono : ∀ {S S1 : Sto} {P : D → Prop} {d : D} {S' : Sto}, ExtR r S S1 → RQ r S1 P d S' → RQ r S P d S' := fun h q => ⟨q.1, h.trans q.2.1, q.2.2⟩
  intro n
  induction n with
  | zero =>
    intro K S hK hr
    obtain ⟨K, rfl⟩ := ge1 (by omega : 1 ≤ K)
    refine wp_run hE rfl ?_
    simp [g__law_test, enter]
    refine wp_use (take_ge hT (by omega) (by decide : (0 : Int) < 9) hr) ?_
    rintro d S1 ⟨hr1, hf, x, rfl, x0, x1⟩
    simp [g__law_test_1, g__law_test_2]
    exact lvQ_mono (low 0 K S1 x (by omega) hr1 x0) fun d S h => mono hf.toR h
  | succ n ih =>
    intro K S hK hr
    obtain ⟨K, rfl⟩ := ge1 (by omega : 1 ≤ K)
    refine wp_run hE rfl ?_
    have n0 : (0 : Int) < (n : Int) + 1 := by omega
    have n1 : (n : Int) + 1 - 1 = (n : Int) := by omega
    simp [g__law_test, enter]
    refine wp_use (take_ge hT (by omega) (by decide : (0 : Int) < 9) hr) ?_
    rintro d S1 ⟨hr1, hf, x, rfl, x0, x1⟩
    simp [g__law_test_1, n0]
    refine cas_dec (fun e => ?_) fun e => ?_
    · have hx1 : ∀ l, ExtR r S (S1 ++ [.lst l]) := fun l => hf.toR.trans ((Ext.app S1 _).toR r)
      rcases (by omega : x = 0 ∨ x = 1 ∨ x = 2) with rfl | rfl | rfl <;>
      · simp [LIM, n1]
        refine wp_use (ih K _ (by omega) (hr1.app _)) ?_
        rintro d S2 ⟨hr2, hx2, t, rfl, ht, hd⟩
        simp [LIM]
        have hd2 : t.dep + 1 ≤ n + 1 + 1 := by omega
        first
          | (refine ⟨hr2, (hx1 _).trans hx2, .no t, ?_, ht, hd2⟩; rw [Te.d]; done)
          | (refine ⟨hr2, (hx1 _).trans hx2, .all t, ?_, ht, hd2⟩; rw [Te.d]; done)
          | (refine ⟨hr2, (hx1 _).trans hx2, .any t, ?_, ht, hd2⟩; rw [Te.d]; done)
    · simp [g__law_test_2, n0]
      refine cas_dec (fun e => ?_) fun e => ?_
      · have hx1 : ∀ l, ExtR r S (S1 ++ [.lst l]) := fun l => hf.toR.trans ((Ext.app S1 _).toR r)
        rcases (by omega : x = 3 ∨ x = 4) with rfl | rfl <;>
        · simp [LIM, n1]
          refine wp_use (ih K _ (by omega) (hr1.app _)) ?_
          rintro d S2 ⟨hr2, hx2, t, rfl, ht, hd⟩
          simp [n1]
          refine wp_use (ih K _ (by omega) hr2) ?_
          rintro d S3 ⟨hr3, hx3, u, rfl, hu, hd2⟩
          simp [LIM]
          have hd3 : max t.dep u.dep + 1 ≤ n + 1 + 1 := by omega
          first
            | (refine ⟨hr3, ((hx1 _).trans hx2).trans hx3, .both t u, ?_, ⟨ht, hu⟩, hd3⟩; rw [Te.d]; done)
            | (refine ⟨hr3, ((hx1 _).trans hx2).trans hx3, .either t u, ?_, ⟨ht, hu⟩, hd3⟩; rw [Te.d]; done)
      · have e1 : ((n : Int) + 1) = ((n + 1 : Nat) : Int) := by omega
        rw [e1]
        refine lvQ_mono (low (n + 1) K S1 x (by omega) hr1 x0) fun d S h => mono hf.toR h
end
end Mx
set_option Elab.async false
set_option linter.all false
set_option maxRecDepth 100000
set_option maxHeartbeats 8000000
namespace Mx
open PySem L2
/-! operations, leaves and terms of the row -/
inductive Op where
  | one (h : Str) | two (h : Str) (n : Int)
def Op.d : Op → D
  | .one h => .tup [.str h]
  | .two h n => .tup [.str h, .int n]
def OpA : List Str := ["sum", "size", "sort", "reverse", "flat"]
def OpB : List Str := ["add", "mul", "mod"]
def og : Op → Prop
  | .one h => h ∈ OpA
  | .two h n => h ∈ OpB ∧ 1 ≤ n ∧ n ≤ 3
theorem ints_of {P : Int → Prop} : ∀ {l : List D}, (∀ d ∈ l, ∃ v : Int, d = .int v ∧ P v) → ∃ vs : List Int, l = vs.map D.int ∧ ∀ v ∈ vs, P v
  | [], _ => ⟨[], rfl, by simp⟩
  | d :: l, h => by
    obtain ⟨v, rfl, hv⟩ := h d List.mem_cons_self
    obtain ⟨vs, rfl, hvs⟩ := ints_of (l := l) fun d' h' => h d' (List.mem_cons_of_mem _ h')
    refine ⟨v :: vs, rfl, fun y hy => ?_⟩
    rcases List.mem_cons.mp hy with rfl | q
    · exact hv
    · exact hvs y q
inductive Gn : Nat → List Str → Bool → Tm → Prop
  | self {n ns} : Gn n ns true .self
  | nam {n ns i} (u : Bool) {x : Str} : x ∈ ns → Gn n ns i (.nam u x)
  | range {n ns i} {lo hi : Int} : -1 ≤ lo → lo ≤ 2 → lo ≤ hi → hi ≤ lo + 2 → Gn n ns i (.lf "range" [.int lo, .int hi])
  | shuf {n ns i} {l : List Int} : l.length ≤ 4 → (∀ z ∈ l, 0 ≤ z ∧ z ≤ 2) → Gn n ns i (.lf "shuffle" [.tup (l.map .int)])
  | disc {n ns i} : Gn n ns i (.lf "discard" [])
  | const {n ns i} {v : Vl} : vg 1 v → Gn n ns i (.lf "const" [v.d])
  | map {n ns i} {o : Op} {t : Tm} : og o → Gn n ns i t → Gn (n + 1) ns i (.un "map" [o.d] t)
  | keep {n ns i} {e : Te} {m : Int} {t : Tm} : tg e → e.dep ≤ 2 → 1 ≤ m → m ≤ 3 → Gn n ns i t → Gn (n + 1) ns i (.un "keep" [e.d, .int m] t)
  | list {n ns i} {lo hi : Int} {t : Tm} : 0 ≤ lo → lo ≤ 1 → lo ≤ hi → hi ≤ lo + 2 → Gn n ns i t → Gn (n + 1) ns i (.un "list" [.int lo, .int hi] t)
  | lt {n ns i} {x : Str} {a b : Tm} : x ∈ XH → Gn n ns i a → Gn n (ns ++ [x]) i b → Gn (n + 1) ns i (.lt x a b)
  | gr {n ns i} {m : Int} {a b : Tm} : 0 ≤ m → m ≤ 3 → Gn n ns i a → Gn n ns true b → Gn (n + 1) ns i (.gr m a b)
  | pick {n ns i} {l : List Tm} : 1 ≤ l.length → l.length ≤ 3 → (∀ t ∈ l, Gn n ns i t) → Gn (n + 1) ns i (.pk true l)
  | tup {n ns i} {l : List Tm} : l.length ≤ 3 → (∀ t ∈ l, Gn n ns i t) → Gn (n + 1) ns i (.pk false l)
  | weigh {n ns i} {ws : List Int} {l : List Tm} : ws.length = l.length → 1 ≤ l.length → l.length ≤ 3 → (∀ z ∈ ws, 1 ≤ z ∧ z ≤ 3) → (∀ t ∈ l, Gn n ns i t) → Gn (n + 1) ns i (.wg ws l)
section
variable {Fs : List Fn} {G : List D} {w k iT iV iE iO iF iM : Nat}
theorem lop_spec (hO : Fs[iO]? = some ⟨1, 2, g__law_operation iT⟩) (hT : Fs[iT]? = some ⟨2, 2, b_take⟩) {r K : Nat} {S : Sto} (hK : 2 ≤ K) (hr : Rowp S r) :
    wp (run Fs G w K iO [.ref r] S) (RQ r S fun d => ∃ o, d = Op.d o ∧ og o) nE := by
  obtain ⟨K, rfl⟩ := ge1 (by omega : 1 ≤ K)
  refine wp_run hO rfl ?_
  simp [g__law_operation, enter]
  refine wp_use (take_ge hT (by omega) (by decide : (0 : Int) < 7) hr) ?_
  rintro d S1 ⟨hr1, hf, x, rfl, x0, x1⟩
  have hx1 : ∀ l, ExtR r S (S1 ++ [.lst l]) := fun l => hf.toR.trans ((Ext.app S1 _).toR r)
  simp
  refine cas_dec (fun e => ?_) fun e => ?_
  · rcases (by omega : x = 0 ∨ x = 1 ∨ x = 2) with rfl | rfl | rfl <;>
    · simp [LIM]
      refine wp_use (take_ge hT (by omega) (by decide : (0 : Int) < 3) (hr1.app _)) ?_
      rintro d S2 ⟨hr2, hf2, y, rfl, y0, y1⟩
      simp [LIM]
      refine ⟨hr2, (hx1 _).trans hf2.toR, .two _ (1 + y), rfl, ?_, by omega, by omega⟩
      simp [OpB]
  · simp [LIM]
    refine wp_use (take_ge hT (by omega) (by decide : (0 : Int) < 5) (hr1.app _)) ?_
    rintro d S2 ⟨hr2, hf2, y, rfl, y0, y1⟩
    have hg : S2[S1.length]? = some (.lst [.str "sum", .str "size", .str "sort", .str "reverse", .str "flat"]) := by
      rw [hf2.get _ (by have := hr1.lt; omega)]
      simp
    rcases (by omega : y = 0 ∨ y = 1 ∨ y = 2 ∨ y = 3 ∨ y = 4) with rfl | rfl | rfl | rfl | rfl <;>
    · simp [lst_lst hg, LIM]
      refine ⟨hr2, (hx1 _).trans hf2.toR, .one _, rfl, ?_⟩
      simp [og, OpA]
theorem at_names {ns : List Str} {x : Int} (h0 : 0 ≤ x) (h1 : x < ns.length) : ∃ y ∈ ns, atI (ns.map D.str) x = some (.str y) := by
  obtain ⟨j, rfl⟩ : ∃ j : Nat, x = j := ⟨x.toNat, by omega⟩
  have hj : j < ns.length := by omega
  refine ⟨ns[j], List.getElem_mem hj, ?_⟩
  simp only [atI]
  rw [ixN_nat (by simpa using hj)]
  simp [hj]
theorem leaf_spec (hF : Fs[iF]? = some ⟨3, 6, g__law_leaf iT iV⟩) (hV : Fs[iV]? = some ⟨2, 3, g__law_value iT iV⟩) (hT : Fs[iT]? = some ⟨2, 2, b_take⟩) {r K : Nat} {S : Sto} (hK : 4 ≤ K) (hr : Rowp S r) (ns : List Str) {q : Nat} (i : Bool) (n : Nat)
    (hq : lstOf S q = some (ns.map .str)) (hqr : q ≠ r) :
    wp (run Fs G w K iF [.ref r, .ref q, .bl i] S) (RQ r S fun d => ∃ t, d = Tm.d t ∧ Gn n ns i t) nE := by
  obtain ⟨K, rfl⟩ := ge1 (by omega : 1 ≤ K)
  refine wp_run hF rfl ?_
  simp [g__law_leaf, enter]
  refine wp_use (take_ge hT (by omega) (by decide : (0 : Int) < 7) hr) ?_
  rintro d S1 ⟨hr1, hf, x, rfl, x0, x1⟩
  have ql : q < S.length := by
    unfold lstOf at hq
    split at hq
    · rename_i h; exact lt_of_get h
    · rename_i h; exact lt_of_get h
    · cases hq
  have hq1 : lstOf S1 q = some (ns.map .str) := by
    unfold lstOf at hq ⊢
    rw [hf.get _ hqr]
    exact hq
  have hx0 := hf.toR
  have low2 : wpS (exs (run Fs G w K) G w (g__law_leaf_3 iT iV) [some (.ref r), some (.ref q), some (.bl i), some (.int x), none, none] S1) (lvQ (RQ r S fun d => ∃ t, d = Tm.d t ∧ Gn n ns i t)) nE := by
    simp [g__law_leaf_3]
    refine cas_beq (fun e => ?_) fun e => ?_
    · simp
      refine wp_use (take_ge hT (by omega) (by decide : (0 : Int) < 4) hr1) ?_
      rintro d S2 ⟨hr2, hf2, y, rfl, y0, y1⟩
      simp
      refine wp_use (take_ge hT (by omega) (by decide : (0 : Int) < 3) hr2) ?_
      rintro d S3 ⟨hr3, hf3, z, rfl, z0, z1⟩
      simp [LIM]
      exact ⟨hr3, (hx0.trans hf2.toR).trans hf3.toR, _, by rw [Tm.d], .range (by omega) (by omega) (by omega) (by omega)⟩
    · simp [g__law_leaf_4]
      refine cas_beq (fun e => ?_) fun e => ?_
      · simp [-wp_lc]
        refine wp_use (row_items hT (by decide : (0 : Int) < 5) (by decide) (by omega) rfl (by decide) hr1 (fun d => ∃ v : Int, d = .int v ∧ 0 ≤ v ∧ v ≤ 2) fun S j hS => ?_) ?_
        · simp
          refine wp_use (take_ge hT (by omega) (by decide : (0 : Int) < 3) hS) ?_
          rintro d S2 ⟨hr2, hf2, y, rfl, y0, y1⟩
          exact ⟨hr2, hf2.toR, y, rfl, y0, by omega⟩
        · rintro d S2 ⟨hr2, hx, p, acc, rfl, hp, hg, hP, hl⟩
          obtain ⟨l, rfl, hls⟩ := ints_of hP
          rw [List.length_map] at hl
          simp [lst_lst hg, LIM]
          exact ⟨hr2, hx0.trans hx, _, by rw [Tm.d], .shuf (by omega) hls⟩
      · simp [g__law_leaf_5]
        have const : ∀ S2, ExtR r S1 S2 → Rowp S2 r → wpS (exs (run Fs G w K) G w (g__law_leaf_6 iT iV) [some (.ref r), some (.ref q), some (.bl i), some (.int x), none, none] S2) (lvQ (RQ r S fun d => ∃ t, d = Tm.d t ∧ Gn n ns i t)) nE := by
          intro S2 hx2 hr2
          simp [g__law_leaf_6]
          refine wp_use (lvalue_spec hV hT 1 K S2 (by omega) hr2) ?_
          rintro d S3 ⟨hr3, hx3, v, rfl, hv⟩
          simp [LIM]
          exact ⟨hr3, (hx0.trans hx2).trans hx3, _, by rw [Tm.d], .const hv⟩
        refine cas_beq (fun e => ?_) fun e => ?_
        · simp
          refine wp_use (take_ge hT (by omega) (by decide : (0 : Int) < 3) hr1) ?_
          rintro d S2 ⟨hr2, hf2, y, rfl, y0, y1⟩
          simp
          refine cas_beq (fun e => ?_) fun e => ?_
          · simp [LIM]
            exact ⟨hr2, hx0.trans hf2.toR, _, by rw [Tm.d], .disc⟩
          · simp
            exact const S2 hf2.toR hr2
        · simp
          exact const S1 (ExtR.refl _ _) hr1
  have low1 : wpS (exs (run Fs G w K) G w (g__law_leaf_2 iT iV) [some (.ref r), some (.ref q), some (.bl i), some (.int x), none, none] S1) (lvQ (RQ r S fun d => ∃ t, d = Tm.d t ∧ Gn n ns i t)) nE := by
    simp [g__law_leaf_2]
    refine cas_beq (fun e => ?_) fun e => ?_
    · simp [hq1]
      refine cas_dec (fun e2 => ?_) fun e2 => ?_
      · simp [LIM]
        refine wp_use (take_ge hT (by omega) (by decide : (0 : Int) < 2) (hr1.app _)) ?_
        rintro d S2 ⟨hr2, hf2, y, rfl, y0, y1⟩
        have hg : S2[S1.length]? = some (.lst [.str "var", .str "upto"]) := by
          rw [hf2.get _ (by have := hr1.lt; omega)]
          simp
        have hq2 : lstOf S2 q = some (ns.map .str) := by
          have h1 : lstOf (S1 ++ [Ob.lst [.str "var", .str "upto"]]) q = some (ns.map .str) := by rw [lst_app (by rw [hf.len]; exact ql)]; exact hq1
          unfold lstOf at h1 ⊢
          rw [hf2.get _ hqr]
          exact h1
        have hx2 : ExtR r S S2 := (hx0.trans ((Ext.app S1 _).toR r)).trans hf2.toR
        have nl : (0 : Int) < ((ns.map D.str).length : Int) := by simpa using e2
        have fin : ∀ u : Bool, wp (run Fs G w K iT [.ref r, .int ((ns.map D.str).length : Int)] S2) (fun x S3 => opt (lstOf S3 q) fun b => opt (L2.atI (α := D) b (match x with | .int z => z | _ => 0)) fun d => RQ r S (fun d => ∃ t, d = Tm.d t ∧ Gn n ns i t) (.tup [.str (nmH u), d]) S3 ∧ ∃ z, x = .int z) nE := by
          intro u
          refine wp_use (take_ge hT (by omega) nl hr2) ?_
          rintro d S3 ⟨hr3, hf3, z, rfl, z0, z1⟩
          have hq3 : lstOf S3 q = some (ns.map .str) := by
            unfold lstOf at hq2 ⊢
            rw [hf3.get _ hqr]
            exact hq2
          obtain ⟨m, hm, em⟩ := at_names (ns := ns) z0 (by simpa using z1)
          simp [hq3, em]
          exact ⟨hr3, hx2.trans hf3.toR, .nam u m, by rw [Tm.d], .nam u hm⟩
        rcases (by omega : y = 0 ∨ y = 1) with rfl | rfl
        · simp [lst_lst hg, hq2]
          have := fin true
          simp at this
          refine wp_use this ?_
          intro d S3 h
          obtain ⟨b, e1, h⟩ := opt_get h
          obtain ⟨m, e2, h2, z, rfl⟩ := opt_get h
          simp [e1] at e2 ⊢
          simp [e2, LIM]
          exact h2
        · simp [lst_lst hg, hq2]
          have := fin false
          simp at this
          refine wp_use this ?_
          intro d S3 h
          obtain ⟨b, e1, h⟩ := opt_get h
          obtain ⟨m, e2, h2, z, rfl⟩ := opt_get h
          simp [e1] at e2 ⊢
          simp [e2, LIM]
          exact h2
      · simp
        exact low2
    · simp
      exact low2
  simp [g__law_leaf_1]
  refine cas_beq (fun e => ?_) fun e => ?_
  · cases i with
    | true =>
      simp [LIM]
      exact ⟨hr1, hx0, .self, by rw [Tm.d], .self⟩
    | false =>
      simp
      exact low1
  · simp
    exact low1
end
end Mx
set_option Elab.async false
set_option linter.all false
set_option maxRecDepth 100000
set_option maxHeartbeats 8000000
namespace Mx
open PySem L2
section
variable {Fs : List Fn} {G : List D} {w k iT iV iE iO iF iM : Nat}
theorem lst_lt {S : Sto} {q : Nat} {l : List D} (hq : lstOf S q = some l) : q < S.length := by
  unfold lstOf at hq
  split at hq
  · rename_i h; exact lt_of_get h
  · rename_i h; exact lt_of_get h
  · cases hq
theorem ExtR.lst {r : Nat} {S S1 : Sto} (h : ExtR r S S1) {q : Nat} {l : List D} (hq : lstOf S q = some l) (hqr : q ≠ r) : lstOf S1 q = some l := by
  have := lst_lt hq
  unfold lstOf at hq ⊢
  rw [h.get q this hqr]
  exact hq
theorem ExtR.mut {r : Nat} {S S1 : Sto} (h : ExtR r S S1) {q : Nat} {l : List D} (hq : S[q]? = some (.lst l)) (hqr : q ≠ r) : S1[q]? = some (.lst l) := by
  rw [h.get q (lt_of_get hq) hqr]
  exact hq
theorem cut3_0 (a b c : D) : cutD [a, b, c] none (some 0) = [] := cut_take' [] [a, b, c] 0 rfl
theorem cut3_1 (a b c : D) : cutD [a, b, c] none (some 1) = [a] := cut_take' [a] [b, c] 1 rfl
theorem cut3_2 (a b c : D) : cutD [a, b, c] none (some 2) = [a, b] := cut_take' [a, b] [c] 2 rfl
theorem cut3_3 (a b c : D) : cutD [a, b, c] none (some 3) = [a, b, c] := cut_all [a, b, c] 3 rfl
structure TermFs (Fs : List Fn) (iT iV iE iO iF iM : Nat) : Prop where
  M : Fs[iM]? = some ⟨4, 10, g__law_term iT iE iO iF iM⟩
  F : Fs[iF]? = some ⟨3, 6, g__law_leaf iT iV⟩
  O : Fs[iO]? = some ⟨1, 2, g__law_operation iT⟩
  E : Fs[iE]? = some ⟨2, 3, g__law_test iT iV iE⟩
  V : Fs[iV]? = some ⟨2, 3, g__law_value iT iV⟩
  T : Fs[iT]? = some ⟨2, 2, b_take⟩
/-- what the row gives -/
abbrev GQ (r : Nat) (S : Sto) (n : Nat) (ns : List Str) (i : Bool) : D → Sto → Prop := RQ r S fun d => ∃ t, d = Tm.d t ∧ Gn n ns i t
theorem lterm_spec (h : TermFs Fs iT iV iE iO iF iM) {r : Nat} : ∀ (n K : Nat) (S : Sto) (ns : List Str) (q : Nat) (i : Bool), n + 7 ≤ K → n + ns.length ≤ 1000 → Rowp S r → S[q]? = some (.lst (ns.map .str)) → q ≠ r →
    wp (run Fs G w K iM [.ref r, .int n, .ref q, .bl i] S) (GQ r S n ns i) nE := by
  intro n
  induction n with
  | zero =>
    intro K S ns q i hK hl hr hq hqr
    obtain ⟨K, rfl⟩ := ge1 (by omega : 1 ≤ K)
    refine wp_run h.M rfl ?_
    simp [g__law_term, enter]
    refine wp_use (take_ge h.T (by omega) (by decide : (0 : Int) < 10) hr) ?_
    rintro d S1 ⟨hr1, hf, x, rfl, x0, x1⟩
    simp [g__law_term_1]
    refine wp_use (leaf_spec h.F h.V h.T (by omega) hr1 ns i 0 (lst_lst (hf.toR.mut hq hqr)) hqr) ?_
    rintro d S2 ⟨hr2, hx2, t, rfl, ht⟩
    simp
    exact ⟨hr2, hf.toR.trans hx2, t, rfl, ht⟩
  | succ n ih =>
    intro K S ns q i hK hl hr hq hqr
    obtain ⟨K, rfl⟩ := ge1 (by omega : 1 ≤ K)
    refine wp_run h.M rfl ?_
    have n0 : ((n : Int) + 1 == 0) = false := beq_false_of_ne (by omega)
    have n1 : (n : Int) + 1 - 1 = (n : Int) := by omega
    simp [g__law_term, enter]
    refine wp_use (take_ge h.T (by omega) (by decide : (0 : Int) < 10) hr) ?_
    rintro d S1 ⟨hr1, hf, x, rfl, x0, x1⟩
    simp [g__law_term_1, n0]
    have hq1 := hf.toR.mut hq hqr
    refine cas_dec (fun _ => ?_) fun xn => ?_
    · simp
      refine wp_use (leaf_spec h.F h.V h.T (by omega) hr1 ns i (n + 1) (lst_lst hq1) hqr) ?_
      rintro d S2 ⟨hr2, hx2, t, rfl, ht⟩
      simp
      exact ⟨hr2, hf.toR.trans hx2, t, rfl, ht⟩
    simp [g__law_term_2, n1]
    refine wp_use (ih K S1 ns q i (by omega) (by omega) hr1 hq1 hqr) ?_
    rintro d S2 ⟨hr2, hx2, a, rfl, ha⟩
    have hq2 := hx2.mut hq1 hqr
    have hx02 := hf.toR.trans hx2
    simp [g__law_term_3]
    refine cas_beq (fun _ => ?_) fun _ => ?_
    · simp
      refine wp_use (lop_spec h.O h.T (by omega) hr2) ?_
      rintro d S3 ⟨hr3, hx3, o, rfl, ho⟩
      simp [LIM]
      exact ⟨hr3, hx02.trans hx3, _, by rw [Tm.d]; rfl, .map ho ha⟩
    simp [g__law_term_4]
    refine cas_beq (fun _ => ?_) fun _ => ?_
    · simp
      refine wp_use (ltest_spec h.E h.V h.T 1 K S2 (by omega) hr2) ?_
      rintro d S3 ⟨hr3, hx3, e, rfl, he, hd⟩
      simp
      refine wp_use (take_ge h.T (by omega) (by decide : (0 : Int) < 3) hr3) ?_
      rintro d S4 ⟨hr4, hf4, y, rfl, y0, y1⟩
      simp [LIM]
      exact ⟨hr4, (hx02.trans hx3).trans hf4.toR, _, by rw [Tm.d]; rfl, .keep he hd (by omega) (by omega) ha⟩
    simp [g__law_term_5]
    refine cas_beq (fun _ => ?_) fun _ => ?_
    · simp
      refine wp_use (take_ge h.T (by omega) (by decide : (0 : Int) < 2) hr2) ?_
      rintro d S3 ⟨hr3, hf3, y, rfl, y0, y1⟩
      simp
      refine wp_use (take_ge h.T (by omega) (by decide : (0 : Int) < 3) hr3) ?_
      rintro d S4 ⟨hr4, hf4, z, rfl, z0, z1⟩
      simp [LIM]
      exact ⟨hr4, (hx02.trans hf3.toR).trans hf4.toR, _, by rw [Tm.d]; rfl, .list y0 (by omega) (by omega) (by omega) ha⟩
    simp [g__law_term_6]
    refine cas_beq (fun _ => ?_) fun _ => ?_
    · simp [LIM]
      refine wp_use (take_ge h.T (by omega) (by decide : (0 : Int) < 3) (hr2.app _)) ?_
      rintro d S3 ⟨hr3, hf3, y, rfl, y0, y1⟩
      have hg : S3[S2.length]? = some (.lst [.str "x", .str "y", .str "abc"]) := by
        rw [hf3.get _ (by have := hr2.lt; omega)]
        simp
      have hx3 : ExtR r S S3 := (hx02.trans ((Ext.app S2 _).toR r)).trans hf3.toR
      have hq3 : S3[q]? = some (.lst (ns.map .str)) := (((Ext.app S2 [Ob.lst [.str "x", .str "y", .str "abc"]]).toR r).trans hf3.toR).mut hq2 hqr
      have go : ∀ (m : Str), m ∈ XH → wp (run Fs G w K iM [.ref r, .int n, .ref (S3.length + 1), .bl i] (S3 ++ [.lst [.str m], .lst (ns.map .str ++ [.str m])])) (fun d S4 => RQ r S (fun d => ∃ t, d = Tm.d t ∧ Gn (n + 1) ns i t) (.tup [.str "let", .str m, a.d, d]) S4) nE := by
        intro m hm
        have e1 : ns.map D.str ++ [D.str m] = (ns ++ [m]).map D.str := by simp
        refine wp_use (ih K (S3 ++ [.lst [.str m], .lst (ns.map .str ++ [.str m])]) (ns ++ [m]) (S3.length + 1) i (by omega) (by simp; omega) (hr3.app _) ?_ (by have := hr3.lt; omega)) ?_
        · rw [List.getElem?_append_right (by omega), e1]
          simp
        · rintro d S4 ⟨hr4, hx4, b, rfl, hb⟩
          exact ⟨hr4, (hx3.trans ((Ext.app S3 _).toR r)).trans hx4, .lt m a b, by rw [Tm.d], .lt hm ha hb⟩
      have lq := lt_of_get hq3
      have m1 : ∀ l, mutOf (S3 ++ [Ob.lst l]) q = some (ns.map .str) := fun l => mut_lst (by rw [List.getElem?_append_left lq]; exact hq3)
      have nl : ns.length + 1 ≤ 1000000 := by omega
      rcases (by omega : y = 0 ∨ y = 1 ∨ y = 2) with rfl | rfl | rfl <;>
      · simp [lst_lst hg, LIM, n1, o_addR', m1, nl]
        refine ⟨by omega, ?_⟩
        refine wp_use (go _ ?_) ?_
        · simp [XH]
        · intro d S4 hh
          simp [LIM]
          exact hh
    simp [g__law_term_7]
    refine cas_beq (fun _ => ?_) fun _ => ?_
    · simp
      refine wp_use (take_ge h.T (by omega) (by decide : (0 : Int) < 4) hr2) ?_
      rintro d S3 ⟨hr3, hf3, y, rfl, y0, y1⟩
      simp [n1]
      refine wp_use (ih K S3 ns q true (by omega) (by omega) hr3 (hf3.toR.mut hq2 hqr) hqr) ?_
      rintro d S4 ⟨hr4, hx4, b, rfl, hb⟩
      simp [LIM]
      exact ⟨hr4, (hx02.trans hf3.toR).trans hx4, .gr y a b, by rw [Tm.d], .gr y0 (by omega) ha hb⟩
    simp [g__law_term_8, n1]
    refine wp_use (ih K S2 ns q i (by omega) (by omega) hr2 hq2 hqr) ?_
    rintro d S3 ⟨hr3, hx3, b, rfl, hb⟩
    have hx03 := hx02.trans hx3
    simp [g__law_term_9]
    have all1 : ∀ t ∈ [a], Gn n ns i t := by intro t ht; simp at ht; subst ht; exact ha
    have all2 : ∀ t ∈ [a, b], Gn n ns i t := by
      intro t ht
      simp at ht
      rcases ht with rfl | rfl
      · exact ha
      · exact hb
    have all3 : ∀ t ∈ [a, b, a], Gn n ns i t := by
      intro t ht
      simp at ht
      rcases ht with rfl | rfl | rfl
      · exact ha
      · exact hb
      · exact ha
    refine cas_beq (fun _ => ?_) fun _ => ?_
    · simp [LIM]
      refine wp_use (take_ge h.T (by omega) (by decide : (0 : Int) < 3) hr3) ?_
      rintro d S4 ⟨hr4, hf4, y, rfl, y0, y1⟩
      have hx4 := hx03.trans hf4.toR
      rcases (by omega : y = 0 ∨ y = 1 ∨ y = 2) with rfl | rfl | rfl
      · simp [cut3_1, LIM]
        exact ⟨hr4, hx4, .pk true [a], by simp [Tm.d, pkH, Tm.ds], .pick (by simp) (by simp) all1⟩
      · simp [cut3_2, LIM]
        exact ⟨hr4, hx4, .pk true [a, b], by simp [Tm.d, pkH, Tm.ds], .pick (by simp) (by simp) all2⟩
      · simp [cut3_3, LIM]
        exact ⟨hr4, hx4, .pk true [a, b, a], by simp [Tm.d, pkH, Tm.ds], .pick (by simp) (by simp) all3⟩
    simp [g__law_term_10]
    refine cas_beq (fun _ => ?_) fun _ => ?_
    · simp
      refine wp_use (take_ge h.T (by omega) (by decide : (0 : Int) < 3) hr3) ?_
      rintro d S4 ⟨hr4, hf4, y, rfl, y0, y1⟩
      simp [LIM]
      refine wp_use (take_ge h.T (by omega) (by decide : (0 : Int) < 3) hr4) ?_
      rintro d S5 ⟨hr5, hf5, z, rfl, z0, z1⟩
      simp [LIM]
      refine wp_use (take_ge h.T (by omega) (by decide : (0 : Int) < 2) hr5) ?_
      rintro d S6 ⟨hr6, hf6, u, rfl, u0, u1⟩
      simp [LIM]
      refine wp_use (take_ge h.T (by omega) (by decide : (0 : Int) < 3) hr6) ?_
      rintro d S7 ⟨hr7, hf7, v, rfl, v0, v1⟩
      have hx7 := (((hx03.trans hf4.toR).trans hf5.toR).trans hf6.toR).trans hf7.toR
      rcases (by omega : v = 0 ∨ v = 1 ∨ v = 2) with rfl | rfl | rfl
      · simp [cut3_1, LIM]
        refine ⟨hr7, hx7, .wg [1 + y] [a], by simp [Tm.d, wds, Tm.ds], .weigh rfl (by simp) (by simp) (fun w hw => ?_) all1⟩
        simp at hw; omega
      · simp [cut3_2, LIM]
        refine ⟨hr7, hx7, .wg [1 + y, 1 + z] [a, b], by simp [Tm.d, wds, Tm.ds], .weigh rfl (by simp) (by simp) (fun w hw => ?_) all2⟩
        simp at hw; omega
      · simp [cut3_3, LIM]
        refine ⟨hr7, hx7, .wg [1 + y, 1 + z, 1 + u] [a, b, a], by simp [Tm.d, wds, Tm.ds], .weigh rfl (by simp) (by simp) (fun w hw => ?_) all3⟩
        simp at hw; omega
    simp [g__law_term_11, LIM]
    refine wp_use (take_ge h.T (by omega) (by decide : (0 : Int) < 4) hr3) ?_
    rintro d S4 ⟨hr4, hf4, y, rfl, y0, y1⟩
    have hx4 := hx03.trans hf4.toR
    rcases (by omega : y = 0 ∨ y = 1 ∨ y = 2 ∨ y = 3) with rfl | rfl | rfl | rfl
    · simp [cut3_0, LIM]
      exact ⟨hr4, hx4, .pk false [], by simp [Tm.d, pkH, Tm.ds], .tup (by simp) (fun t ht => by cases ht)⟩
    · simp [cut3_1, LIM]
      exact ⟨hr4, hx4, .pk false [a], by simp [Tm.d, pkH, Tm.ds], .tup (by simp) all1⟩
    · simp [cut3_2, LIM]
      exact ⟨hr4, hx4, .pk false [a, b], by simp [Tm.d, pkH, Tm.ds], .tup (by simp) all2⟩
    · simp [cut3_3, LIM]
      exact ⟨hr4, hx4, .pk false [a, b, a], by simp [Tm.d, pkH, Tm.ds], .tup (by simp) all3⟩
end
end Mx
set_option Elab.async false
set_option linter.all false
set_option maxRecDepth 100000
set_option maxHeartbeats 8000000
namespace Mx
open PySem L2
/-! immutable data -/
theorem Im.mono {n s m t : Nat} {d : D} (h : Im n s d) (h1 : n ≤ m) (h2 : s ≤ t) : Im m t d := by
  obtain ⟨p, a, b, c, e, f, g⟩ := h.ex
  exact ⟨p, a, b, by omega, e, f, by omega⟩
theorem Im.int {i : Int} (h : i.natAbs < 10 ^ 12) : Im 0 40 (.int i) := by
  refine ⟨.int i, fun f => by rw [pdW], rfl, by simp [PyData.depth], ?_, ?_, ?_⟩
  · rw [PyData.intsShort, decide_eq_true_eq]
    exact PyData.shown_int_le h
  · rw [PyData.showable, decide_eq_true_eq]
    have : i.natAbs.log2 < 40 := by
      by_cases z : i.natAbs = 0
      · rw [z]; decide
      · exact (Nat.log2_lt z).mpr (by omega)
    omega
  · rw [PyData.weight]
    split
    · omega
    · rename_i z
      have : i.natAbs.log2 < 40 := (Nat.log2_lt (by simpa using z)).mpr (by omega)
      omega
/-- smaller ones -/
theorem Im.int2 {i : Int} (h : i.natAbs < 1000) : Im 0 10 (.int i) := by
  obtain ⟨p, a, b, c, e, f, g⟩ := (Im.int (i := i) (by omega)).ex
  refine ⟨p, a, b, c, e, f, ?_⟩
  have := a fun _ => none
  rw [pdW] at this
  cases this
  rw [PyData.weight]
  split
  · omega
  · rename_i z
    have : i.natAbs.log2 < 10 := (Nat.log2_lt (by simpa using z)).mpr (by omega)
    omega
theorem Im.str {x : Str} {s : Nat} (h : PyData.strOk x = true) (hs : x.cps.size ≤ s) : Im 0 s (.str x) :=
  ⟨.str x, fun f => by rw [pdW], by rw [PyData.canLay0, h], by simp [PyData.depth], by rw [PyData.intsShort], by rw [PyData.showable], by rw [PyData.weight]; exact hs⟩
theorem Im.lits {n s : Nat} : ∀ {l : List D}, (∀ d ∈ l, Im n s d) → ∃ ps : List PyData, (∀ f, pdWs f l = some ps) ∧ PyData.canLayAll0 ps = true ∧ PyData.depthAll ps ≤ n ∧ PyData.intsShortAll 13 ps = true ∧ PyData.showableAll ps = true ∧ PyData.weightAll ps ≤ l.length * (s + 1)
  | [], _ => ⟨[], fun f => by rw [pdWs], rfl, by simp [PyData.depthAll], rfl, rfl, by simp [PyData.weightAll]⟩
  | d :: l, h => by
    obtain ⟨p, a, b, c, e, f, g⟩ := (h d List.mem_cons_self).ex
    obtain ⟨ps, a2, b2, c2, e2, f2, g2⟩ := Im.lits (l := l) fun x hx => h x (List.mem_cons_of_mem _ hx)
    refine ⟨p :: ps, fun f => by rw [pdWs, a f, a2 f], by rw [PyData.canLayAll0, b, b2]; rfl, ?_, by rw [PyData.intsShortAll, e, e2]; rfl, by rw [PyData.showableAll, f, f2]; rfl, ?_⟩
    · rw [PyData.depthAll]; exact Nat.max_le.mpr ⟨c, c2⟩
    · rw [PyData.weightAll, List.length_cons, Nat.succ_mul]; omega
theorem Im.tup {n s : Nat} {l : List D} (h : ∀ d ∈ l, Im n s d) : Im (n + 1) (l.length * (s + 1)) (.tup l) := by
  obtain ⟨ps, a, b, c, e, f, g⟩ := Im.lits h
  refine ⟨.tuple ps, fun f => by rw [pdW, a f]; rfl, by rw [PyData.canLay0, b], ?_, by rw [PyData.intsShort, e], by rw [PyData.showable, f], by rw [PyData.weight]; exact g⟩
  rw [PyData.depth]; omega
theorem Im.tupM {n s m t : Nat} {l : List D} (h : ∀ d ∈ l, Im n s d) (h1 : n + 1 ≤ m) (h2 : l.length * (s + 1) ≤ t) : Im m t (.tup l) := (Im.tup h).mono h1 h2
/-- it equals itself -/
theorem Im.eq {n s : Nat} {d : D} (h : Im n s d) (hn : n ≤ 64) (S : Sto) : eqC S d d = some true := by
  obtain ⟨p, a, b, c, _, _, _⟩ := h.ex
  have e : ∀ k, pdN k S d = some p := fun k => by cases k <;> exact a _
  have s1 : SeqAt.shaped p = true := by
    unfold SeqAt.shaped
    rw [b, Bool.true_and]
    exact decide_eq_true (by omega)
  unfold eqC
  split
  · rename_i c' q
    unfold strD at q
    split at q
    · cases q; simp
    · cases q
  · unfold eqD
    rw [e]
    simp only [s1, Bool.and_self, if_true, SeqAt.eqv_refl p b]
/-- its text -/
theorem Im.repr {n s : Nat} {d : D} (h : Im n s d) (hn : n ≤ 60) (hs : 15 * s + 13 ≤ LIM) : ∃ x, ∀ S, bi1 .repr [d] S = some (.str x, S) := by
  obtain ⟨p, a, b, c, e, f, g⟩ := h.ex
  refine ⟨p.shown, fun S => ?_⟩
  have e3 : pdN 3 S d = some p := a _
  have l1 := PyData.shown_le 13 (by decide) p (PyData.leavesShort_of_canLay0 13 p b e)
  show (match pdN 3 S d with
    | some x => if x.showable = true ∧ x.hasDict = false ∧ x.depth ≤ 60 ∧ x.shown.length ≤ LIM then some (D.str x.shown, S) else none
    | none => none) = _
  rw [e3]
  simp only
  rw [if_pos ⟨f, PyData.hasDict_of_canLay p b, by omega, by have := Nat.mul_le_mul_left 15 g; omega⟩]
/-! the drawn things are so -/
def HH : List Str := LH ++ UH ++ XH ++ OpA ++ OpB ++ (["self", "let", "grow", "var", "upto", "pick", "tuple", "weigh", "equals", "less", "even", "rising", "not", "both", "either", "all", "any"] : List Str)
theorem hh_ok : ∀ h ∈ HH, PyData.strOk h = true ∧ h.cps.size ≤ 10 := by decide +kernel
theorem im_head {h : Str} (m : h ∈ HH) : Im 0 10 (.str h) := Im.str (hh_ok h m).1 (hh_ok h m).2
theorem vg_im : ∀ (n : Nat) (v : Vl), vg n v → Im n (3 ^ n * 20 - 10) v.d := by
  intro n
  induction n with
  | zero => intro v h; cases v with
    | int i => rw [d_int]; have h : -1 ≤ i ∧ i ≤ 3 := h; exact Im.int2 (by omega)
    | tup l => exact h.elim
  | succ n ih =>
    intro v h
    have p : 1 ≤ 3 ^ n := Nat.one_le_pow _ _ (by decide)
    have e : 3 ^ (n + 1) = 3 * 3 ^ n := by rw [Nat.pow_succ]; omega
    cases v with
    | int i =>
      rw [d_int]
      have h : -1 ≤ i ∧ i ≤ 3 := h
      exact (Im.int2 (by omega)).mono (by omega) (by omega)
    | tup l =>
      rw [d_tup]
      refine Im.tupM (n := n) (s := 3 ^ n * 20 - 10) (fun d hd => ?_) (by omega) ?_
      · obtain ⟨v, hv, rfl⟩ := List.mem_map.mp hd
        exact ih v (h.2 v hv)
      · rw [List.length_map]
        refine Nat.le_trans (Nat.mul_le_mul_right _ h.1) ?_
        omega
theorem im_cons {n s : Nat} {d : D} {l : List D} (h : Im n s d) (h2 : ∀ x ∈ l, Im n s x) : ∀ x ∈ d :: l, Im n s x := fun x hx => by
  rcases List.mem_cons.mp hx with rfl | hx
  · exact h
  · exact h2 x hx
theorem im_nil {n s : Nat} : ∀ x ∈ ([] : List D), Im n s x := fun x hx => by cases hx
theorem op_im {o : Op} (h : og o) : Im 1 40 o.d := by
  cases o with
  | one h' =>
    refine Im.tupM (n := 0) (s := 10) (im_cons (im_head ?_) im_nil) (by omega) (by simp)
    have h : h' ∈ OpA := h
    simp [HH, h]
  | two h' m =>
    have h : h' ∈ OpB ∧ 1 ≤ m ∧ m ≤ 3 := h
    refine Im.tupM (n := 0) (s := 10) (im_cons (im_head ?_) (im_cons (Im.int2 (by omega)) im_nil)) (by omega) (by simp)
    simp [HH, h.1]
theorem te_head {h : Str} (m : h ∈ (["equals", "less", "size", "even", "rising", "not", "both", "either", "all", "any"] : List Str)) : Im 0 10 (.str h) := by
  refine im_head ?_
  have key : ∀ h ∈ (["equals", "less", "size", "even", "rising", "not", "both", "either", "all", "any"] : List Str), h ∈ HH := by decide +kernel
  exact key h m
/-- .. of a row of things -/
structure ImL (n s : Nat) (l : List D) : Prop where
  ex : ∃ ps : List PyData, (∀ f, pdWs f l = some ps) ∧ PyData.canLayAll0 ps = true ∧ PyData.depthAll ps ≤ n ∧ PyData.intsShortAll 13 ps = true ∧ PyData.showableAll ps = true ∧ PyData.weightAll ps ≤ s
theorem ImL.nil {n : Nat} : ImL n 0 [] := ⟨[], fun f => by rw [pdWs], rfl, by simp [PyData.depthAll], rfl, rfl, by simp [PyData.weightAll]⟩
theorem ImL.cons {n m s t : Nat} {d : D} {l : List D} (h : Im m s d) (hm : m ≤ n) (h2 : ImL n t l) : ImL n (s + 1 + t) (d :: l) := by
  obtain ⟨p, a, b, c, e, f, g⟩ := h.ex
  obtain ⟨ps, a2, b2, c2, e2, f2, g2⟩ := h2.ex
  refine ⟨p :: ps, fun f => by rw [pdWs, a f, a2 f], by rw [PyData.canLayAll0, b, b2]; rfl, ?_, by rw [PyData.intsShortAll, e, e2]; rfl, by rw [PyData.showableAll, f, f2]; rfl, ?_⟩
  · rw [PyData.depthAll]; exact Nat.max_le.mpr ⟨by omega, c2⟩
  · rw [PyData.weightAll]; omega
theorem ImL.app {n s t : Nat} : ∀ {l m : List D}, ImL n s l → ImL n t m → ImL n (s + t) (l ++ m) := by
  intro l m h1 h2
  obtain ⟨ps, a, b, c, e, f, g⟩ := h1.ex
  obtain ⟨qs, a2, b2, c2, e2, f2, g2⟩ := h2.ex
  have w : ∀ {l : List D} {ps : List PyData}, (∀ f, pdWs f l = some ps) → ∀ f, pdWs f (l ++ m) = some (ps ++ qs) := by
    intro l
    induction l with
    | nil => intro ps h f; have := h f; rw [pdWs] at this; cases this; exact a2 f
    | cons d l ih =>
      intro ps h f
      have h0 := fun f => h f
      cases ps with
      | nil => have := h0 f; rw [pdWs] at this; split at this <;> cases this
      | cons p ps =>
        have h1 : ∀ f, pdW f d = some p ∧ pdWs f l = some ps := by
          intro f
          have := h0 f
          rw [pdWs] at this
          split at this
          · rename_i x xs e1 e2; cases this; exact ⟨e1, e2⟩
          · cases this
        rw [List.cons_append, pdWs, (h1 f).1, ih (fun f => (h1 f).2) f]
        rfl
  have w1 : ∀ ps : List PyData, PyData.canLayAll0 ps = true → PyData.canLayAll0 (ps ++ qs) = true := by
    intro ps
    induction ps with
    | nil => exact fun _ => b2
    | cons p ps ih => intro h; simp only [PyData.canLayAll0, Bool.and_eq_true] at h; rw [List.cons_append, PyData.canLayAll0, h.1, ih h.2]; rfl
  have w2 : ∀ ps : List PyData, PyData.depthAll ps ≤ n → PyData.depthAll (ps ++ qs) ≤ n := by
    intro ps
    induction ps with
    | nil => exact fun _ => c2
    | cons p ps ih => intro h; rw [PyData.depthAll] at h; rw [List.cons_append, PyData.depthAll]; exact Nat.max_le.mpr ⟨by omega, ih (by omega)⟩
  have w3 : ∀ ps : List PyData, PyData.intsShortAll 13 ps = true → PyData.intsShortAll 13 (ps ++ qs) = true := by
    intro ps
    induction ps with
    | nil => exact fun _ => e2
    | cons p ps ih => intro h; simp only [PyData.intsShortAll, Bool.and_eq_true] at h; rw [List.cons_append, PyData.intsShortAll, h.1, ih h.2]; rfl
  have w4 : ∀ ps : List PyData, PyData.showableAll ps = true → PyData.showableAll (ps ++ qs) = true := by
    intro ps
    induction ps with
    | nil => exact fun _ => f2
    | cons p ps ih => intro h; simp only [PyData.showableAll, Bool.and_eq_true] at h; rw [List.cons_append, PyData.showableAll, h.1, ih h.2]; rfl
  have w5 : ∀ ps : List PyData, PyData.weightAll (ps ++ qs) = PyData.weightAll ps + PyData.weightAll qs := by
    intro ps
    induction ps with
    | nil => simp [PyData.weightAll]
    | cons p ps ih => rw [List.cons_append, PyData.weightAll, PyData.weightAll, ih]; omega
  exact ⟨ps ++ qs, w a, w1 ps b, w2 ps c, w3 ps e, w4 ps f, by rw [w5]; omega⟩
theorem ImL.tup {n s : Nat} {l : List D} (h : ImL n s l) : Im (n + 1) s (.tup l) := by
  obtain ⟨ps, a, b, c, e, f, g⟩ := h.ex
  refine ⟨.tuple ps, fun f => by rw [pdW, a f]; rfl, by rw [PyData.canLay0, b], ?_, by rw [PyData.intsShort, e], by rw [PyData.showable, f], by rw [PyData.weight]; exact g⟩
  rw [PyData.depth]; omega
theorem ImL.all {n s : Nat} {l : List D} (h : ∀ d ∈ l, Im n s d) : ImL n (l.length * (s + 1)) l := by
  obtain ⟨ps, q⟩ := Im.lits h
  exact ⟨ps, q⟩
theorem te_im : ∀ (t : Te), tg t → t.dep ≤ 2 → Im 4 140 t.d ∧ (t.dep ≤ 1 → Im 3 62 t.d) := by
  have low : ∀ t : Te, tg t → t.dep ≤ 1 → Im 3 62 t.d := by
    intro t ht hd
    cases t with
    | eq v => rw [Te.d]; exact (ImL.cons (te_head (by decide +kernel)) (by omega) (.cons (vg_im 1 v ht) (Nat.le_refl 1) .nil)).tup.mono (by omega) (by omega)
    | less i => rw [Te.d]; have ht : 0 ≤ i ∧ i ≤ 5 := ht; exact (ImL.cons (te_head (by decide +kernel)) (by omega) (.cons (Im.int2 (by omega)) (Nat.zero_le 1) .nil)).tup.mono (by omega) (by omega)
    | size i => rw [Te.d]; have ht : 0 ≤ i ∧ i ≤ 3 := ht; exact (ImL.cons (te_head (by decide +kernel)) (by omega) (.cons (Im.int2 (by omega)) (Nat.zero_le 1) .nil)).tup.mono (by omega) (by omega)
    | even => rw [Te.d]; exact (ImL.cons (te_head (by decide +kernel)) (Nat.zero_le 1) .nil).tup.mono (by omega) (by omega)
    | rising => rw [Te.d]; exact (ImL.cons (te_head (by decide +kernel)) (Nat.zero_le 1) .nil).tup.mono (by omega) (by omega)
    | no t => rw [Te.dep] at hd; have := dep_pos t; omega
    | all t => rw [Te.dep] at hd; have := dep_pos t; omega
    | any t => rw [Te.dep] at hd; have := dep_pos t; omega
    | both t u => rw [Te.dep] at hd; have := dep_pos t; omega
    | either t u => rw [Te.dep] at hd; have := dep_pos t; omega
  intro t ht hd
  refine ⟨?_, low t ht⟩
  cases t with
  | no t => rw [Te.d]; rw [Te.dep] at hd; exact (ImL.cons (te_head (by decide +kernel)) (by omega) (.cons (low t ht (by omega)) (Nat.le_refl 3) .nil)).tup.mono (by omega) (by omega)
  | all t => rw [Te.d]; rw [Te.dep] at hd; exact (ImL.cons (te_head (by decide +kernel)) (by omega) (.cons (low t ht (by omega)) (Nat.le_refl 3) .nil)).tup.mono (by omega) (by omega)
  | any t => rw [Te.d]; rw [Te.dep] at hd; exact (ImL.cons (te_head (by decide +kernel)) (by omega) (.cons (low t ht (by omega)) (Nat.le_refl 3) .nil)).tup.mono (by omega) (by omega)
  | both t u => rw [Te.d]; rw [Te.dep] at hd; exact (ImL.cons (te_head (by decide +kernel)) (by omega) (.cons (low t ht.1 (by omega)) (Nat.le_refl 3) (.cons (low u ht.2 (by omega)) (Nat.le_refl 3) .nil))).tup.mono (by omega) (by omega)
  | either t u => rw [Te.d]; rw [Te.dep] at hd; exact (ImL.cons (te_head (by decide +kernel)) (by omega) (.cons (low t ht.1 (by omega)) (Nat.le_refl 3) (.cons (low u ht.2 (by omega)) (Nat.le_refl 3) .nil))).tup.mono (by omega) (by omega)
  | _ => exact (low _ ht (by simp [Te.dep])).mono (by omega) (by omega)
/-- the weight of a drawn term -/
def wgt : Nat → Nat
  | 0 => 120
  | n + 1 => 3 * wgt n + 400
theorem gn_im {n : Nat} {ns : List Str} {i : Bool} {t : Tm} (h : Gn n ns i t) (hns : ∀ x ∈ ns, x ∈ XH) : Im (3 * n + 6) (wgt n) t.d := by
  have w0 : ∀ n, 120 ≤ wgt n := fun n => by
    induction n with
    | zero => exact Nat.le_refl _
    | succ n ih => rw [wgt]; omega
  have hd : ∀ {h : Str}, h ∈ HH → ∀ {k}, Im k 10 (.str h) := fun m k => (im_head m).mono (by omega) (by omega)
  induction h with
  | self => have := w0 ‹_›; rw [Tm.d]; exact (ImL.cons (im_head (by decide +kernel)) (Nat.zero_le 1) .nil).tup.mono (by omega) (by omega)
  | nam u hx =>
    rename_i n ns i x
    have := w0 n
    have h1 : x ∈ HH := by have := hns _ hx; simp [HH, this]
    have h2 : nmH u ∈ HH := by cases u <;> (simp only [nmH]; decide +kernel)
    rw [Tm.d]
    exact (ImL.cons (im_head h2) (Nat.zero_le 1) (.cons (im_head h1) (Nat.zero_le 1) .nil)).tup.mono (by omega) (by omega)
  | range h1 h2 h3 h4 => have := w0 ‹_›; rw [Tm.d]; exact (ImL.cons (im_head (by decide +kernel)) (Nat.zero_le 1) (.cons (Im.int2 (by omega)) (Nat.zero_le 1) (.cons (Im.int2 (by omega)) (Nat.zero_le 1) .nil))).tup.mono (by omega) (by omega)
  | @shuf n ns i l h1 h2 =>
    have := w0 n
    rw [Tm.d]
    have il : ImL 0 (4 * 11) (l.map D.int) := by
      obtain ⟨ps, a, b, c, e, f, g⟩ := (ImL.all (l := l.map D.int) (n := 0) (s := 10) fun d hd => by
        obtain ⟨z, hz, rfl⟩ := List.mem_map.mp hd
        have := h2 z hz
        exact Im.int2 (by omega)).ex
      refine ⟨ps, a, b, c, e, f, Nat.le_trans g ?_⟩
      rw [List.length_map]
      exact Nat.mul_le_mul_right _ h1
    exact (ImL.cons (im_head (by decide +kernel)) (by omega) (.cons il.tup (Nat.le_refl 1) .nil)).tup.mono (by omega) (by omega)
  | disc => have := w0 ‹_›; rw [Tm.d]; exact (ImL.cons (im_head (by decide +kernel)) (Nat.zero_le 1) .nil).tup.mono (by omega) (by omega)
  | const hv => have := w0 ‹_›; rw [Tm.d]; exact (ImL.cons (im_head (by decide +kernel)) (by omega) (.cons (vg_im 1 _ hv) (Nat.le_refl 1) .nil)).tup.mono (by omega) (by omega)
  | map ho ht ih => rw [Tm.d, wgt]; exact (ImL.cons (im_head (by decide +kernel)) (by omega) (.cons (op_im ho) (by omega) (.cons (ih hns) (Nat.le_refl _) .nil))).tup.mono (by omega) (by omega)
  | keep he hd h1 h2 ht ih => rw [Tm.d, wgt]; exact (ImL.cons (im_head (by decide +kernel)) (by omega) (.cons (te_im _ he hd).1 (by omega) (.cons (Im.int2 (by omega)) (by omega) (.cons (ih hns) (Nat.le_refl _) .nil)))).tup.mono (by omega) (by omega)
  | list h1 h2 h3 h4 ht ih => rw [Tm.d, wgt]; exact (ImL.cons (im_head (by decide +kernel)) (by omega) (.cons (Im.int2 (by omega)) (by omega) (.cons (Im.int2 (by omega)) (by omega) (.cons (ih hns) (Nat.le_refl _) .nil)))).tup.mono (by omega) (by omega)
  | lt hx ha hb ih1 ih2 =>
    rename_i x _ _
    have h1 : x ∈ HH := by simp [HH, hx]
    have i2 := ih2 (fun y hy => by
      rcases List.mem_append.mp hy with q | q
      · exact hns y q
      · simp at q; subst q; exact hx)
    rw [Tm.d, wgt]
    exact (ImL.cons (im_head (by decide +kernel)) (by omega) (.cons (im_head h1) (by omega) (.cons (ih1 hns) (Nat.le_refl _) (.cons i2 (Nat.le_refl _) .nil)))).tup.mono (by omega) (by omega)
  | gr h1 h2 ha hb ih1 ih2 => rw [Tm.d, wgt]; exact (ImL.cons (im_head (by decide +kernel)) (by omega) (.cons (Im.int2 (by omega)) (by omega) (.cons (ih1 hns) (Nat.le_refl _) (.cons (ih2 hns) (Nat.le_refl _) .nil)))).tup.mono (by omega) (by omega)
  | @pick n ns i l h1 h2 hl ih =>
    rw [Tm.d, wgt, tds_map]
    have il : ImL (3 * n + 6) (3 * (wgt n + 1)) (l.map Tm.d) := by
      obtain ⟨ps, a, b, c, e, f, g⟩ := (ImL.all (l := l.map Tm.d) fun d hd => by
        obtain ⟨z, hz, rfl⟩ := List.mem_map.mp hd
        exact ih z hz hns).ex
      refine ⟨ps, a, b, c, e, f, Nat.le_trans g ?_⟩
      rw [List.length_map]
      exact Nat.mul_le_mul_right _ h2
    exact (ImL.cons (im_head (by decide +kernel)) (by omega) (.cons il.tup (Nat.le_refl _) .nil)).tup.mono (by omega) (by omega)
  | @tup n ns i l h2 hl ih =>
    rw [Tm.d, wgt, tds_map]
    have il : ImL (3 * n + 6) (3 * (wgt n + 1)) (l.map Tm.d) := by
      obtain ⟨ps, a, b, c, e, f, g⟩ := (ImL.all (l := l.map Tm.d) fun d hd => by
        obtain ⟨z, hz, rfl⟩ := List.mem_map.mp hd
        exact ih z hz hns).ex
      refine ⟨ps, a, b, c, e, f, Nat.le_trans g ?_⟩
      rw [List.length_map]
      exact Nat.mul_le_mul_right _ h2
    exact (ImL.cons (im_head (by decide +kernel)) (by omega) (.cons il.tup (Nat.le_refl _) .nil)).tup.mono (by omega) (by omega)
  | @weigh n ns i ws l hw h1 h2 hz hl ih =>
    rw [Tm.d, wgt, tds_map]
    have il : ImL (3 * n + 7) (3 * (wgt n + 12 + 1)) (wds ws (l.map Tm.d)) := by
      obtain ⟨ps, a, b, c, e, f, g⟩ := (ImL.all (l := wds ws (l.map Tm.d)) (n := 3 * n + 7) (s := wgt n + 12) fun d hd => by
        obtain ⟨j, hj, rfl⟩ := List.mem_iff_getElem.mp hd
        obtain ⟨x, y, e1, e2, e3⟩ := wds_get ws (l.map Tm.d) j _ (List.getElem?_eq_getElem hj)
        rw [List.getElem?_map] at e2
        cases q : l[j]? with
        | none => rw [q] at e2; cases e2
        | some u =>
          rw [q] at e2
          cases e2
          rw [e3]
          have := hz x (List.mem_of_getElem? e1)
          exact (ImL.cons (Im.int2 (by omega)) (by omega) (.cons (ih u (List.mem_of_getElem? q) hns) (Nat.le_refl _) .nil)).tup.mono (by omega) (by omega)).ex
      refine ⟨ps, a, b, c, e, f, Nat.le_trans g ?_⟩
      rw [wds_len ws (l.map Tm.d) (by simpa using hw), List.length_map]
      exact Nat.mul_le_mul_right _ h2
    exact (ImL.cons (im_head (by decide +kernel)) (by omega) (.cons il.tup (Nat.le_refl _) .nil)).tup.mono (by omega) (by omega)
end Mx
set_option Elab.async false
set_option linter.all false
set_option maxRecDepth 100000
set_option maxHeartbeats 8000000
namespace Mx
open PySem L2
theorem tok_add {n : Nat} {t : Tm} (k : Nat) (h : tok n t) : tok (n + k) t := by
  induction k with
  | zero => exact h
  | succ k ih => exact tok_mono _ _ ih
theorem tok_le {n m : Nat} {t : Tm} (h : tok n t) (hm : n ≤ m) : tok m t := by
  have := tok_add (m - n) h
  rwa [Nat.add_sub_cancel' hm] at this
theorem tok_lf {n : Nat} {h : Str} {r : List D} (a : h ∈ LH) (b : r.length ≤ 2) (c : ∀ d ∈ r, Im 8 200 d) : tok n (.lf h r) := by cases n <;> exact ⟨a, b, c⟩
theorem tok_self {n : Nat} : tok n .self := by cases n <;> trivial
theorem tok_nam {n : Nat} {u : Bool} {x : Str} (h : x ∈ XH) : tok n (.nam u x) := by cases n <;> exact h
theorem tok_gn {n : Nat} {ns : List Str} {i : Bool} {t : Tm} (h : Gn n ns i t) (hns : ∀ x ∈ ns, x ∈ XH) : tok n t := by
  induction h with
  | self => exact tok_self
  | nam u hx => exact tok_nam (hns _ hx)
  | range h1 h2 h3 h4 => exact tok_lf (by decide +kernel) (by simp) (im_cons ((Im.int2 (by omega)).mono (by omega) (by omega)) (im_cons ((Im.int2 (by omega)).mono (by omega) (by omega)) im_nil))
  | @shuf n ns i l h1 h2 =>
    refine tok_lf (by decide +kernel) (by simp) (im_cons ?_ im_nil)
    refine Im.tupM (n := 0) (s := 10) (fun d hd => ?_) (by omega) (by rw [List.length_map]; omega)
    obtain ⟨z, hz, rfl⟩ := List.mem_map.mp hd
    have := h2 z hz
    exact Im.int2 (by omega)
  | disc => exact tok_lf (by decide +kernel) (by simp) im_nil
  | const hv => exact tok_lf (by decide +kernel) (by simp) (im_cons ((vg_im 1 _ hv).mono (by omega) (by omega)) im_nil)
  | map ho ht ih => exact ⟨by decide +kernel, by simp, im_cons ((op_im ho).mono (by omega) (by omega)) im_nil, ih hns⟩
  | keep he hd h1 h2 ht ih => exact ⟨by decide +kernel, by simp, im_cons ((te_im _ he hd).1.mono (by omega) (by omega)) (im_cons ((Im.int2 (by omega)).mono (by omega) (by omega)) im_nil), ih hns⟩
  | list h1 h2 h3 h4 ht ih => exact ⟨by decide +kernel, by simp, im_cons ((Im.int2 (by omega)).mono (by omega) (by omega)) (im_cons ((Im.int2 (by omega)).mono (by omega) (by omega)) im_nil), ih hns⟩
  | lt hx ha hb ih1 ih2 =>
    exact ⟨hx, ih1 hns, ih2 (fun y hy => by
      rcases List.mem_append.mp hy with q | q
      · exact hns y q
      · simp at q; subst q; exact hx)⟩
  | gr h1 h2 ha hb ih1 ih2 => exact ⟨by omega, ih1 hns, ih2 hns⟩
  | pick h1 h2 hl ih => exact ⟨by omega, fun t ht => ih t ht hns⟩
  | tup h2 hl ih => exact ⟨by omega, fun t ht => ih t ht hns⟩
  | weigh hw h1 h2 hz hl ih => exact ⟨hw, by omega, fun w hw => by have := hz w hw; omega, fun t ht => ih t ht hns⟩
theorem gn_free {n : Nat} {ns : List Str} {i : Bool} {t : Tm} (h : Gn n ns i t) : ∀ y ∈ t.free, y ∈ ns := by
  have fr : ∀ (ns : List Str) (l : List Tm), (∀ t ∈ l, ∀ y ∈ t.free, y ∈ ns) → ∀ y ∈ Tm.frees l, y ∈ ns := by
    intro ns l h y hy
    rw [frees_map] at hy
    obtain ⟨m, hm, hz⟩ := List.mem_flatten.mp hy
    obtain ⟨u, hu, rfl⟩ := List.mem_map.mp hm
    exact h u hu y hz
  induction h with
  | nam u hx => intro y hy; simp [Tm.free] at hy; subst hy; exact hx
  | map ho ht ih => rw [Tm.free]; exact ih
  | keep he hd h1 h2 ht ih => rw [Tm.free]; exact ih
  | list h1 h2 h3 h4 ht ih => rw [Tm.free]; exact ih
  | lt hx ha hb ih1 ih2 =>
    intro y hy
    rw [Tm.free, List.mem_append, List.mem_filter] at hy
    rcases hy with hy | ⟨hy, hne⟩
    · exact ih1 y hy
    · rcases List.mem_append.mp (ih2 y hy) with q | q
      · exact q
      · simp at q; subst q; simp at hne
  | gr h1 h2 ha hb ih1 ih2 =>
    intro y hy
    rw [Tm.free, List.mem_append] at hy
    rcases hy with hy | hy
    · exact ih1 y hy
    · exact ih2 y hy
  | pick h1 h2 hl ih => rw [Tm.free]; exact fr _ _ ih
  | tup h2 hl ih => rw [Tm.free]; exact fr _ _ ih
  | weigh hw h1 h2 hz hl ih => rw [Tm.free]; exact fr _ _ ih
  | _ => intro y hy; simp [Tm.free] at hy
theorem tok_im : ∀ (n : Nat) (t : Tm), tok n t → ∃ s, Im (3 * n + 10) s t.d := by
  have hx : ∀ {h : Str}, h ∈ HH → ∀ n, Im n 10 (.str h) := fun m n => (im_head m).mono (by omega) (by omega)
  have lh : ∀ h ∈ LH, h ∈ HH := by decide +kernel
  have uh : ∀ h ∈ UH, h ∈ HH := by decide +kernel
  have xh : ∀ h ∈ XH, h ∈ HH := by decide +kernel
  have leaf : ∀ (n : Nat) (h : Str) (r : List D), h ∈ LH → (∀ d ∈ r, Im 8 200 d) → ∃ s, Im (3 * n + 10) s (Tm.lf h r).d := fun n h r m q => by
    rw [Tm.d]
    exact ⟨_, (Im.tup (im_cons ((hx (lh h m) 8).mono (by omega) (by omega : 10 ≤ 200)) q)).mono (by omega) (Nat.le_refl _)⟩
  have self : ∀ n, ∃ s, Im (3 * n + 10) s Tm.self.d := fun n => by
    rw [Tm.d]
    exact ⟨_, (Im.tup (im_cons (hx (by decide +kernel) 8) im_nil)).mono (by omega) (Nat.le_refl _)⟩
  have nam : ∀ n (u : Bool) x, x ∈ XH → ∃ s, Im (3 * n + 10) s (Tm.nam u x).d := fun n u x m => by
    rw [Tm.d]
    have h2 : nmH u ∈ HH := by cases u <;> (simp only [nmH]; decide +kernel)
    exact ⟨_, (Im.tup (im_cons (hx h2 8) (im_cons (hx (xh x m) 8) im_nil))).mono (by omega) (Nat.le_refl _)⟩
  have many : ∀ (n : Nat) (l : List Tm), (∀ t ∈ l, ∃ s, Im n s t.d) → ∃ s, ∀ t ∈ l, Im n s t.d := by
    intro n l
    induction l with
    | nil => exact fun _ => ⟨0, fun t h => by cases h⟩
    | cons t l ih =>
      intro h
      obtain ⟨s1, h1⟩ := h t List.mem_cons_self
      obtain ⟨s2, h2⟩ := ih fun u hu => h u (List.mem_cons_of_mem _ hu)
      refine ⟨max s1 s2, fun u hu => ?_⟩
      rcases List.mem_cons.mp hu with rfl | hu
      · exact h1.mono (Nat.le_refl _) (Nat.le_max_left _ _)
      · exact (h2 u hu).mono (Nat.le_refl _) (Nat.le_max_right _ _)
  intro n
  induction n with
  | zero =>
    intro t ht
    cases t with
    | lf h r => exact leaf 0 h r ht.1 ht.2.2
    | self => exact self 0
    | nam u x => exact nam 0 u x ht
    | _ => exact ht.elim
  | succ n ih =>
    intro t ht
    cases t with
    | lf h r => exact leaf _ h r ht.1 ht.2.2
    | self => exact self _
    | nam u x => exact nam _ u x ht
    | un h r u =>
      obtain ⟨s, hs⟩ := ih u ht.2.2.2
      rw [Tm.d]
      refine ⟨_, (ImL.cons (n := 3 * n + 10) (hx (uh h ht.1) 0) (by omega) (ImL.app (ImL.all (s := 200) fun d hd => (ht.2.2.1 d hd).mono (by omega) (Nat.le_refl _)) (.cons hs (Nat.le_refl _) .nil))).tup.mono (by omega) (Nat.le_refl _)⟩
    | lt x a b =>
      obtain ⟨s, hs⟩ := ih a ht.2.1
      obtain ⟨s2, hs2⟩ := ih b ht.2.2
      rw [Tm.d]
      exact ⟨_, (ImL.cons (n := 3 * n + 10) (hx (by decide +kernel) 0) (by omega) (.cons (hx (xh x ht.1) 0) (by omega) (.cons hs (Nat.le_refl _) (.cons hs2 (Nat.le_refl _) .nil)))).tup.mono (by omega) (Nat.le_refl _)⟩
    | gr m a b =>
      obtain ⟨s, hs⟩ := ih a ht.2.1
      obtain ⟨s2, hs2⟩ := ih b ht.2.2
      have := ht.1
      rw [Tm.d]
      exact ⟨_, (ImL.cons (n := 3 * n + 10) (hx (by decide +kernel) 0) (by omega) (.cons (Im.int (i := m) (by omega)) (by omega) (.cons hs (Nat.le_refl _) (.cons hs2 (Nat.le_refl _) .nil)))).tup.mono (by omega) (Nat.le_refl _)⟩
    | pk u l =>
      obtain ⟨s, hs⟩ := many (3 * n + 10) l fun t h => ih t (ht.2 t h)
      have h2 : pkH u ∈ HH := by cases u <;> (simp only [pkH]; decide +kernel)
      rw [Tm.d, tds_map]
      exact ⟨_, (ImL.cons (n := 3 * n + 11) (hx h2 0) (by omega) (.cons (Im.tup (l := l.map Tm.d) fun d hd => by
        obtain ⟨t, h, rfl⟩ := List.mem_map.mp hd
        exact hs t h) (by omega) .nil)).tup.mono (by omega) (Nat.le_refl _)⟩
    | wg ws l =>
      obtain ⟨s, hs⟩ := many (3 * n + 10) l fun t h => ih t (ht.2.2.2 t h)
      rw [Tm.d, tds_map]
      exact ⟨_, (ImL.cons (n := 3 * n + 12) (hx (by decide +kernel) 0) (by omega) (.cons (Im.tup (n := 3 * n + 11) (s := 41 + (s + 1 + 0)) (l := wds ws (l.map Tm.d)) fun d hd => by
        obtain ⟨j, hj, rfl⟩ := List.mem_iff_getElem.mp hd
        obtain ⟨x, y, e1, e2, e3⟩ := wds_get ws (l.map Tm.d) j _ (List.getElem?_eq_getElem hj)
        rw [List.getElem?_map] at e2
        cases q : l[j]? with
        | none => rw [q] at e2; cases e2
        | some u =>
          rw [q] at e2
          cases e2
          rw [e3]
          have := ht.2.2.1 x (List.mem_of_getElem? e1)
          exact (ImL.cons (n := 3 * n + 10) (Im.int (i := x) (by omega)) (by omega) (.cons (hs u (List.mem_of_getElem? q)) (Nat.le_refl _) .nil)).tup) (by omega) .nil)).tup.mono (by omega) (Nat.le_refl _)⟩
theorem tok_eq {n : Nat} {t : Tm} (h : tok n t) (hn : n ≤ 17) (S : Sto) : eqC S t.d t.d = some true := by
  obtain ⟨s, hs⟩ := tok_im n t h
  exact hs.eq (by omega) S
theorem tok_sub {x : Str} {v : D} {z : Option Int} (hv : Im 8 200 v) (hz : ∀ i, z = some i → 0 ≤ i ∧ i ≤ 63) : ∀ (n : Nat) (t : Tm), tok n t → tok n (t.sub x v z) := by
  have rp : ∀ (n : Nat) (u : Bool), tok n (rpl u v z) := fun n u => by
    cases u with
    | true => exact tok_lf (by decide +kernel) (by simp) (im_cons hv im_nil)
    | false =>
      cases z with
      | none => exact tok_lf (by decide +kernel) (by simp) (im_cons ((Im.int2 (by omega)).mono (by omega) (by omega)) im_nil)
      | some i =>
        have := hz i rfl
        exact tok_lf (by decide +kernel) (by simp) (im_cons ((Im.int2 (by omega)).mono (by omega) (by omega)) (im_cons ((Im.int2 (by omega)).mono (by omega) (by omega)) im_nil))
  intro n
  induction n with
  | zero =>
    intro t ht
    cases t with
    | lf h r => rw [Tm.sub]; exact ht
    | self => rw [Tm.sub]; trivial
    | nam u y => rw [Tm.sub]; split; exact rp 0 u; exact ht
    | _ => exact ht.elim
  | succ n ih =>
    intro t ht
    cases t with
    | lf h r => rw [Tm.sub]; exact ht
    | self => rw [Tm.sub]; trivial
    | nam u y => rw [Tm.sub]; split; exact rp _ u; exact ht
    | un h r u => rw [Tm.sub]; exact ⟨ht.1, ht.2.1, ht.2.2.1, ih u ht.2.2.2⟩
    | lt y a b =>
      rw [Tm.sub]
      split
      · exact ⟨ht.1, ih a ht.2.1, ht.2.2⟩
      · exact ⟨ht.1, ih a ht.2.1, ih b ht.2.2⟩
    | gr m a b => rw [Tm.sub]; exact ⟨ht.1, ih a ht.2.1, ih b ht.2.2⟩
    | pk u l =>
      rw [Tm.sub, subs_map]
      refine ⟨by rw [List.length_map]; exact ht.1, fun t h => ?_⟩
      obtain ⟨u, hu, rfl⟩ := List.mem_map.mp h
      exact ih u (ht.2 u hu)
    | wg ws l =>
      rw [Tm.sub, subs_map]
      refine ⟨by rw [List.length_map]; exact ht.1, by rw [List.length_map]; exact ht.2.1, ht.2.2.1, fun t h => ?_⟩
      obtain ⟨u, hu, rfl⟩ := List.mem_map.mp h
      exact ih u (ht.2.2.2 u hu)
theorem tok_wi {m : Nat} {s : Tm} (hs : tok m s) : ∀ (n : Nat) (t : Tm), tok n t → tok (n + m) (Tm.wi s t) := by
  intro n
  induction n with
  | zero =>
    intro t ht
    cases t with
    | lf h r => rw [Tm.wi]; exact tok_le ht (by omega)
    | self => rw [Tm.wi]; exact tok_le hs (by omega)
    | nam u y => rw [Tm.wi]; exact tok_le ht (by omega)
    | _ => exact ht.elim
  | succ n ih =>
    intro t ht
    rw [Nat.succ_add]
    cases t with
    | lf h r => rw [Tm.wi]; exact tok_le ht (by omega)
    | self => rw [Tm.wi]; exact tok_le hs (by omega)
    | nam u y => rw [Tm.wi]; exact tok_le ht (by omega)
    | un h r u => rw [Tm.wi]; exact ⟨ht.1, ht.2.1, ht.2.2.1, ih u ht.2.2.2⟩
    | lt y a b => rw [Tm.wi]; exact ⟨ht.1, ih a ht.2.1, ih b ht.2.2⟩
    | gr k a b => rw [Tm.wi]; exact ⟨ht.1, ih a ht.2.1, tok_add m ht.2.2⟩
    | pk u l =>
      rw [Tm.wi, wis_map]
      refine ⟨by rw [List.length_map]; exact ht.1, fun t h => ?_⟩
      obtain ⟨u, hu, rfl⟩ := List.mem_map.mp h
      exact ih u (ht.2 u hu)
    | wg ws l =>
      rw [Tm.wi, wis_map]
      refine ⟨by rw [List.length_map]; exact ht.1, by rw [List.length_map]; exact ht.2.1, ht.2.2.1, fun t h => ?_⟩
      obtain ⟨u, hu, rfl⟩ := List.mem_map.mp h
      exact ih u (ht.2.2.2 u hu)
end Mx
set_option Elab.async false
set_option linter.all false
set_option maxRecDepth 100000
set_option maxHeartbeats 8000000
namespace Mx
open L2 PySem PySem.Spec PyProof.Rows
theorem relRef {a : Addr} : L2.RelV (.ref a) (.ref a) := by rfl
/-- a def with defaults -/
theorem at_mk2 {K : PySem.W.Frag} {h : Heap} {mg : Str → Option Value} (X : K.In h) (G : h.Ns mainGlobals mg) {x : Str} {st : Stmt} {N ps : List Str} {body : Sms} {f : Addr} {oc : Value} {od an : Option Addr} {osl : Array (Option Value)} {kV dc pm cd ct : Value}
    {y : Str} {T : Addr} {oT : Obj} {its : List Value} {m : Nat} {vs : List V} {ds : List D}
    (a : PySem.W.nsIn K mainGlobals y = some (some (.ref f))) (l : K.lookup f = some ⟨oc, od, .func (PySem.W.fnOf x x (defArgs st) (defBody st) (defScope st) (.ref T) kV dc pm an cd ct), osl⟩)
    (c : PySem.W.codeIn K cd x = true) (k : PySem.W.keepIn K (.ref f) = true) (lT : K.lookup T = some oT) (dT : oT.data = .seq its.toArray m) (rT : Vals vs its) (hne : vs ≠ []) (hle : vs.length ≤ ps.length)
    (hd : ∀ φ H, RVs K φ H ds vs)
    (b : ∀ (T : Addr) (kV doc pm : Value) (an : Option Addr) (cdv ct : Value) (us its : List Value), its.length = vs.length → us.length = ps.length →
      ∃ k, bindArgs (PySem.W.fnOf x x (defArgs st) (defBody st) (defScope st) (.ref T) kV doc pm an cdv ct) ⟨us, []⟩ = seqItems? (.ref T) >>= k ∧ k (some its.toArray) = pure (ps.zip (us ++ its.drop vs.length)))
    (b0 : ∀ (T : Addr) (kV doc pm : Value) (an : Option Addr) (cdv ct : Value) (us its : List Value), its.length = vs.length → us.length + vs.length = ps.length →
      ∃ k, bindArgs (PySem.W.fnOf x x (defArgs st) (defBody st) (defScope st) (.ref T) kV doc pm an cdv ct) ⟨us, []⟩ = seqItems? (.ref T) >>= k ∧ k (some its.toArray) = pure (ps.zip (us ++ its.drop 0)))
    {ca : Nat → Addr} (hq : (⟨y, st, N, ps, body, ds, none⟩ : Rw).q = x := by rfl) : At K ca mg ⟨y, st, N, ps, body, ds, none⟩ := by
  have F : FunD K x x (defArgs st) (defBody st) (defScope st) vs [] f (PySem.W.fnOf x x (defArgs st) (defBody st) (defScope st) (.ref T) kV dc pm an cd ct) :=
    ⟨⟨oc, od, .ref T, kV, dc, pm, an, cd, ct, osl, rfl, l, c, .inr ⟨hne, T, oT, its, m, rfl, lT, dT, rT⟩, .inl rfl⟩, k⟩
  obtain ⟨d1, e1, b1⟩ := F.binds1 (ps := ps) ps.length vs.length hne (by omega) fun T kV doc pm an cdv ct us its hu hi => b T kV doc pm an cdv ct us its hi hu
  obtain ⟨d2, e2, b2⟩ := F.binds1 (ps := ps) (ps.length - vs.length) 0 hne (by omega) fun T kV doc pm an cdv ct us its hu hi => b0 T kV doc pm an cdv ct us its hi (by omega)
  rw [List.drop_length] at e1
  cases e1
  refine ⟨f, _, vs, [], PySem.W.mg_of X G a, b1, ?_, fun _ => ⟨d2, vs, b2, e2, hd⟩⟩
  show FunD K (⟨y, st, N, ps, body, ds, none⟩ : Rw).q (⟨y, st, N, ps, body, ds, none⟩ : Rw).q _ _ _ _ _ _ _
  rw [hq]
  exact F
/-- .. one default, the empty tuple -/
theorem at_mk3 {K : PySem.W.Frag} {h : Heap} {mg : Str → Option Value} (X : K.In h) (G : h.Ns mainGlobals mg) {x : Str} {st : Stmt} {N ps : List Str} {body : Sms} {f : Addr} {oc oc2 : Value} {od an od2 od3 : Option Addr} {osl osl2 osl3 : Array (Option Value)} {kV dc pm cd ct : Value}
    {y : Str} {T p : Addr} {m m3 : Nat}
    (a : PySem.W.nsIn K mainGlobals y = some (some (.ref f))) (l : K.lookup f = some ⟨oc, od, .func (PySem.W.fnOf x x (defArgs st) (defBody st) (defScope st) (.ref T) kV dc pm an cd ct), osl⟩)
    (c : PySem.W.codeIn K cd x = true) (k : PySem.W.keepIn K (.ref f) = true) (lT : K.lookup T = some ⟨oc2, od2, .seq #[.ref p] m, osl2⟩) (lp : K.lookup p = some ⟨.type "tuple", od3, .seq #[] m3, osl3⟩) (hle : 1 ≤ ps.length)
    (b : ∀ (T : Addr) (kV doc pm : Value) (an : Option Addr) (cdv ct : Value) (us its : List Value), its.length = 1 → us.length = ps.length →
      ∃ k, bindArgs (PySem.W.fnOf x x (defArgs st) (defBody st) (defScope st) (.ref T) kV doc pm an cdv ct) ⟨us, []⟩ = seqItems? (.ref T) >>= k ∧ k (some its.toArray) = pure (ps.zip (us ++ its.drop 1)))
    (b0 : ∀ (T : Addr) (kV doc pm : Value) (an : Option Addr) (cdv ct : Value) (us its : List Value), its.length = 1 → us.length + 1 = ps.length →
      ∃ k, bindArgs (PySem.W.fnOf x x (defArgs st) (defBody st) (defScope st) (.ref T) kV doc pm an cdv ct) ⟨us, []⟩ = seqItems? (.ref T) >>= k ∧ k (some its.toArray) = pure (ps.zip (us ++ its.drop 0)))
    {ca : Nat → Addr} (hq : (⟨y, st, N, ps, body, [.tup []], none⟩ : Rw).q = x := by rfl) : At K ca mg ⟨y, st, N, ps, body, [.tup []], none⟩ :=
  at_mk2 (its := [.ref p]) (vs := [L2.V.ref p]) X G a l c k lT rfl (.cons relRef .nil) (by simp) (by simpa using hle)
    (fun φ H => .cons (.tup (.inr ⟨_, #[], m3, lp, rfl, rfl, by decide, .nil⟩) .nil) .nil) b b0 hq
end Mx
set_option Elab.async false
set_option linter.all false
set_option maxRecDepth 100000
set_option maxHeartbeats 4000000
namespace Mx
open PySem L2
section
variable {Fs : List Fn} {G : List D} {w iT : Nat}
/-- a list of as many as the row tells -/
theorem row_items_at (hT : Fs[iT]? = some ⟨2, 2, b_take⟩) {m : Int} (h3 : 0 < m) (h3' : m ≤ 1000) {r c K : Nat} (hK : 1 ≤ K) {ρ : Rho} {S : Sto} {p : Nat} (h0 : ρ[p]? = some (some (.ref r))) (hr : Rowp S r) {el : Ex} (P : D → Prop)
    (step : ∀ (S : Sto) (j : Nat), Rowp S r → wp (ev (run Fs G w K) G el false ((ρ.set c none).set c (some (.int j))) S) (fun y S' => Rowp S' r ∧ ExtR r S S' ∧ P y) nE) :
    wp (ev (run Fs G w K) G (.lc el [c] (.nm c) .rng (.cons (.cal iT (.cons (.var p) (.cons (.cst (.int m)) .nil))) .nil) .nil) false ρ S)
      (fun d S' => Rowp S' r ∧ ExtR r S S' ∧ ∃ q acc, d = .ref q ∧ S.length ≤ q ∧ S'[q]? = some (.lst acc) ∧ (∀ y ∈ acc, P y) ∧ (acc.length : Int) < m) nE := by
  simp [h0]
  refine wp_use (take_ge hT hK h3 hr) ?_
  rintro d S1 ⟨hr1, hf, x, rfl, hx0, hx1⟩
  simp [wipeD]
  refine ⟨okR_of (by omega) (by omega), ?_⟩
  refine lc_gen (L := rng 0 x.toNat) (fun j => j = r) (fun S => Rowp S r) (fun _ o => ∃ y, o = some y ∧ P y) S1 (by rw [rng_len]; simp [LIM]; omega) (by have := hr1.lt; omega) (fun _ _ _ => nx_items) (fun S2 o h => h.put (by have := hr1.lt; omega) o) (hr1.app _) ?_ ?_ _ (by simp)
  · intro j d S2 hd hx2 hlt hr2
    obtain ⟨hj, rfl⟩ := rng_get hd
    refine ⟨_, rfl, ?_⟩
    simp only [wp_ok]
    refine ⟨ExtP.refl _ _, hr2, true, rfl, ?_⟩
    rw [if_pos rfl]
    have s := step S2 j hr2
    have e0 : (0 : Int) + (j : Int) = (j : Int) := by omega
    rw [e0]
    refine wp_use s ?_
    rintro y S3 ⟨hr3, hx3, hp⟩
    exact ⟨hx3.toP, hr3, y, rfl, hp⟩
  · intro S2 acc hx2 hr2 hk hl
    have e := hl.each (T := P) fun d y h => by
      obtain ⟨y', h1, h2⟩ := h
      cases h1
      exact h2
    have len := hl.len
    rw [rng_len] at len
    refine ⟨hr2, hf.toR.trans hx2.toR, _, _, rfl, ?_, hk, e, by omega⟩
    rw [hf.len]
    exact Nat.le_refl _
end
end Mx
set_option Elab.async false
set_option linter.all false
set_option maxRecDepth 100000
set_option maxHeartbeats 4000000
/-! an own error whose __init__ says super().__init__(f'..{name}') and stores the name: from the head's facts -/
namespace Mx
open PySem PySem.Spec PySem.W PySem.Calls PyProof.Rows L2
def xJ (pre fld : Str) (a b c d : Pos) : Expr := .JoinedStr [.Constant (.str pre) 0 a, .FormattedValue (.Name fld b) (-1) none c] d
abbrev xArgs (fld : Str) (a b : Pos) : Arguments := { posonlyargs := [], args := [{ arg := "self", annotation := none, pos := a }, { arg := fld, annotation := none, pos := b }], vararg := none, kwonlyargs := [], kw_defaults := [], kwarg := none, defaults := [] }
abbrev xScope (fld : Str) : Scope := { kind := .function, names := [(PySem.Str.ofString "self", .local), (fld, .local), (PySem.Str.ofString "__class__", .free), (PySem.Str.ofString "super", .globalImplicit)], isGenerator := false, isCoroutine := false, more := [] }
/-- a field's name that is none of the others -/
structure XNm (fld : Str) : Prop where
  s : (fld == ("self" : Str)) = false
  d : (fld == ("__debug__" : Str)) = false
  c : ((PySem.Str.ofString "__class__") == fld) = false
  u : ((PySem.Str.ofString "super") == fld) = false
section
variable {P : Program} {w : World} {K : Frag} {C fI cc cda : Addr} {fld qual pre : Str}
theorem kind_fld (n : XNm fld) (L : Addr) : (ksEnv qual (xScope fld) L fI (.ref cda) cc).kindOf fld = some .local := by
  show List.lookup fld _ = _
  have h := n.s
  simp [List.lookup, h]
theorem xj_ok {v : Value} (n : XNm fld) (hpre : pre.length ≤ 1000) (hv : Xp.okFV v) {a b c d : Pos} (L : Addr) : Xp.JOk P w (xJ pre fld a b c d) fld (ksEnv qual (xScope fld) L fI (.ref cda) cc) v := by
  intro A E s m hn hm
  refine wpAny_JoinedStr ?_
  have e0 : evalEach [.Constant (.str pre) 0 a, .FormattedValue (.Name fld b) (-1) none c] (ksEnv qual (xScope fld) L fI (.ref cda) cc) = [eval (.Constant (.str pre) 0 a) (ksEnv qual (xScope fld) L fI (.ref cda) cc), eval (.FormattedValue (.Name fld b) (-1) none c) (ksEnv qual (xScope fld) L fI (.ref cda) cc)] := by first | rfl | simp [evalEach]
  rw [e0]
  have le : ∀ x y : Str, x.length ≤ 1000 → y.length ≤ 100000 → (x ++ y).length ≤ sizeLine := fun x y hx hy => by
    rw [strLen_append, sizeLine_eq]
    omega
  have z0 : ∀ x : Str, Str.empty ++ x = x := fun x => by
    show Str.mk _ = _
    simp [Str.empty]
  refine wpAny_Constant_str ⟨pre, _, rfl, ?_, ?_⟩
  · rw [z0, sizeLine_eq]
    omega
  rw [z0]
  refine wpAny_FormattedValue_plain (wpAny_Name (wpAny_loadName_local rfl (kind_fld n L) hn hm ?_) n.d)
  have go : ∀ (y : Str) (t : PySem.Tok) (tk : Nat), y.length ≤ 100000 → ∃ y' t', Value.str y t = .str y' t' ∧ (pre ++ y').length ≤ sizeLine ∧ ((pre ++ y').length ≤ sizeLine ∧ ((∃ t2 tk2, Value.str (pre ++ y') tk = .str t2 tk2) ∧ ∃ tk', ({ s with toks := tk + 1 } : Shared) = { s with toks := tk' })) :=
    fun y t tk hy => ⟨y, t, rfl, le _ _ hpre hy, le _ _ hpre hy, ⟨_, _, rfl⟩, _, rfl⟩
  rcases hv with ⟨y, t, rfl, hy⟩ | ⟨i, t, rfl, hi⟩
  · refine wpAny_formatField_str ?_ ?_ (by rw [sizeLine_eq]; omega)
    · exact go y _ _ hy
    · exact go y _ _ hy
  · refine wpAny_formatField_int (by omega) ?_
    refine go (toString i) _ _ ?_
    have := int_text_length_le (k := 1000) (a := i) (by decide) hi
    rw [show (Str.ofString (toString i)).length = _ from PySem.ofString_length _]
    omega
abbrev xBd (pre fld : Str) (a b c d p0 p1 p2 p3 p4 q1 q2 q3 q4 : Pos) : List Stmt := Xp.xBody (xJ pre fld a b c d) fld p0 p1 p2 p3 p4 q1 q2 q3 q4
/-- is an error of class C caught by «except S» -/
theorem exm_mk {S : Addr} {b : Bool} (h1 : subIn K (.ref S) (.type "BaseException") = some true) (h2 : isClsIn K S = true) (h3 : typeIn K (.ref S) = some (.type "type")) (h4 : subIn K (.ref C) (.ref S) = some b) : exmOne K (.ref C) (.ref S) = some b := by
  have q2 : (clsIn K S).isSome = true := h2
  unfold exmOne kitCls
  simp only [h1, q2, h3, Bool.true_and, beq_self_eq_true, if_true, h4]
theorem xcls_mk {N : Addr} {nm q : Str} {bs bm : List Value} {sn : List Str} {sub : List Value} {ab : Bool} {col : Option Bool} {dd : Option Addr} {m0 m1 m2 m3 m5 : Option Value} {a b c d p0 p1 p2 p3 p4 q1 q2 q3 q4 r1 r2 : Pos}
    {oc kV doc pm ct : Value} {od an : Option Addr} {osl : Array (Option Value)} {cl ccl : Value} {cld cdd : Option Addr} {csl ccs : Array (Option Value)} {vs : Array Value} {f : Str} {tf : PySem.Tok}
    (n : XNm fld) (hpre : pre.length ≤ 1000) (hl : (p2.endLine == p3.line) = true)
    (xL : K.lookup C = some (excClassObj nm q C N bs bm true sn sub ab col dd m0 m1 m2 m3 m5 "ValueError.__new__")) (xb : PySem.HandSPX.refsVE bm = true)
    (sa : findIn K (.ref C) "__setattr__" = some (some (.builtin "object.__setattr__"))) (noF : findIn K (.ref C) fld = some none) (iC : findIn K (.ref C) "__init__" = some (some (.ref fI))) (tI : typeIn K (.ref fI) = some (.type "function"))
    (fn : K.lookup fI = some ⟨oc, od, .func (ksFn "__init__" qual (xArgs fld r1 r2) (xBd pre fld a b c d p0 p1 p2 p3 p4 q1 q2 q3 q4) (xScope fld) .none kV doc pm an (.ref cda) ct cc), osl⟩)
    (code : codeIn K (.ref cda) qual = true) (cell : K.lookup cc = some ⟨cl, cld, .cell (some (.ref C)), csl⟩) (file : K.lookup cda = some ⟨ccl, cdd, .fields vs, ccs⟩) (v2 : vs[2]? = some (.str f tf)) (hf : ((P.main.file : Str) == f) = true)
    (sup : ks_superIn K C C "__init__" = some (some (.builtin "ValueError.__init__"))) (subB : subIn K (.ref C) (.type "ValueError") = some true) (slf : mroIn K C (.ref C) = some true) (st : nsIn K cStatics "thirdparty.any" = some none)
    (top : (P.main.scope.names.lookup ("super" : Str)).isSome = false) (kC : keepIn K (.ref C) = true) (exC : subIn K (.ref C) (.type "BaseException") = some true) (tyC : typeIn K (.ref C) = some (.type "type"))
    (hpar : ∀ kV doc pm an ct (v : Value) (x : Addr), bindArgs (ksFn "__init__" qual (xArgs fld r1 r2) (xBd pre fld a b c d p0 p1 p2 p3 p4 q1 q2 q3 q4) (xScope fld) .none kV doc pm an (.ref cda) ct cc) ⟨[.ref x, v], []⟩ = pure [(Str.ofString "self", .ref x), (fld, v)]) :
    Xp.XCls P w K C fld := by
  have T : Xp.XTxt P K C fI cc cda fld qual (xArgs fld r1 r2) (xBd pre fld a b c d p0 p1 p2 p3 p4 q1 q2 q3 q4) (xScope fld) :=
    ⟨⟨_, _, _, _, _, _, _, _, _, _, _, _, _, _, _, xL, xb⟩, sa, noF, iC, tI, ⟨_, _, _, _, _, _, _, _, fn⟩, code, ⟨_, _, _, cell⟩, ⟨_, _, _, _, _, _, file, v2, hf⟩, sup, subB, slf, st, top⟩
  have hs := n.s
  have hc := n.c
  have hu := n.u
  refine ⟨⟨_, _, _, _, _, _, _, T, fun v hv A s x t0 R X hlim hG hB hx hnx hroom hq => ?_⟩, kC, exC, tyC⟩
  obtain ⟨mg, g1, g2⟩ := hG
  obtain ⟨mb, b1, b2⟩ := hB
  refine Xp.x_init (pl := fun L => L2.plainOf (.Call (.Name "super" p0) [] [] p1) (ksEnv qual (xScope fld) L fI (.ref cda) cc)) T hpar rfl rfl rfl rfl (fun y hy => ?_) rfl ?_ ?_ ?_ n.s n.d (fun L => xj_ok n hpre hv L) (fun L => ?he) (fun L => rfl) (fun L => rfl) X hlim g1 g2 b1 b2 hx hnx hroom hq
  case he => exact (arm_eval_Call _ _ _ _ _ _ _).trans (congrArg _ (funext fun ov => congrArg _ (funext fun _ => L2.mcall_line rfl hl)))
  · simp only [List.mem_cons, List.not_mem_nil, or_false] at hy
    rcases hy with rfl | rfl | rfl | rfl <;> (intro z; cases z)
  · simp [List.lookup, hs]
  · have : (("super" : Str) == fld) = false := hu
    simp [List.lookup, this]
    rfl
  · have : (("__class__" : Str) == fld) = false := hc
    simp [List.lookup, this]
    rfl
end
end Mx
set_option Elab.async false
set_option linter.all false
set_option maxRecDepth 100000
set_option maxHeartbeats 4000000
set_option exponentiation.threshold 8000
/-! lists of ints; instances; the zeros at a list's end -/
namespace Mx
open PySem L2
theorem intL_of (xs : List Int) : intL (xs.map D.int) = some xs := by
  induction xs with
  | nil => rfl
  | cons x l ih => simp [intL, ih]
theorem pdN_of {S : Sto} {a : Nat} {xs : List Int} (h : lstOf S a = some (xs.map D.int)) : pdN 3 S (.ref a) = some (.list (xs.map PyData.int)) := by
  have m : ∀ l : List Int, mapO (pdN 2 S) (l.map D.int) = some (l.map PyData.int) := fun l => by
    induction l with
    | nil => rfl
    | cons x l ih =>
      simp only [List.map_cons, mapO]
      rw [ih]
      rw [pdN, pdW]
  rw [pdN, pdW, h]
  simp only [m]
  rfl
theorem shaped_of (xs : List Int) : SeqAt.shaped (.list (xs.map PyData.int)) = true := by
  have c : PyData.canLayAll0 (xs.map PyData.int) = true ∧ PyData.depthAll (xs.map PyData.int) = 0 := by
    induction xs with
    | nil => exact ⟨rfl, rfl⟩
    | cons x l ih => simp [PyData.canLayAll0, PyData.canLay0, PyData.depthAll, PyData.depth, ih]
  unfold SeqAt.shaped
  rw [PyData.canLay0, c.1, Bool.true_and, PyData.depth, c.2]
  decide
theorem eqv_of : ∀ xs ys : List Int, PyData.eqvAll (xs.map PyData.int) (ys.map PyData.int) = decide (xs = ys)
  | [], [] => by simp [PyData.eqvAll]
  | [], _ :: _ => by simp [PyData.eqvAll]
  | _ :: _, [] => by simp [PyData.eqvAll]
  | x :: xs, y :: ys => by
    simp only [List.map_cons, PyData.eqvAll, PyData.eqv, eqv_of xs ys, List.cons.injEq, Bool.decide_and]
    congr 1
theorem eqC_of {S : Sto} {a b : Nat} {xs ys : List Int} (ha : lstOf S a = some (xs.map D.int)) (hb : lstOf S b = some (ys.map D.int)) : eqC S (.ref a) (.ref b) = some (decide (xs = ys)) := by
  show eqD S (.ref a) (.ref b) = _
  unfold eqD
  rw [pdN_of ha, pdN_of hb]
  simp only [shaped_of, Bool.and_self, if_true, PyData.eqv, eqv_of]
theorem lt_of {S : Sto} {a b : Nat} {xs ys : List Int} (ha : lstOf S a = some (xs.map D.int)) (hb : lstOf S b = some (ys.map D.int)) : cm2 .lt (.ref a) (.ref b) S = some (HT.lexLt xs ys) := by
  show (match (lstOf S a).bind intL, (lstOf S b).bind intL with
    | some x, some y => some (HT.lexLt x y)
    | _, _ => none) = _
  rw [ha, hb, Option.bind_some, Option.bind_some, intL_of, intL_of]
theorem last_of (xs : List Int) (y : Int) : atI ((xs ++ [y]).map D.int) (-1) = some (.int y) := by
  cases xs with
  | nil => rfl
  | cons x r =>
    have := atI_neg (.int x) (r.map D.int) (.int y)
    simpa using this
theorem init_of (xs : List Int) (y : Int) : cutD ((xs ++ [y]).map D.int) none (some (-1)) = xs.map D.int := by
  cases xs with
  | nil => rfl
  | cons x r =>
    have := cut_init (.int x) (r.map D.int) (.int y)
    simpa using this
theorem atI_of {l : List D} {k : Nat} {d : D} (h : l[k]? = some d) : atI l (k : Int) = some d := by
  have lt := (List.getElem?_eq_some_iff.mp h).1
  simp only [atI, ixN_nat lt]
  exact h
/-- the zeros in front are left out -/
def zF : List Int → List Int
  | [] => []
  | x :: r => if x = 0 then zF r else x :: r
/-- .. at the end -/
def trimZ (l : List Int) : List Int := (zF l.reverse).reverse
@[simp] theorem trim_nil : trimZ [] = [] := rfl
theorem trim_zero (l : List Int) : trimZ (l ++ [0]) = trimZ l := by simp [trimZ, zF]
theorem trim_ne (l : List Int) {x : Int} (h : x ≠ 0) : trimZ (l ++ [x]) = l ++ [x] := by simp [trimZ, zF, h]
theorem trim_rep (l : List Int) : ∀ n : Nat, trimZ (l ++ List.replicate n 0) = trimZ l
  | 0 => by simp
  | n + 1 => by rw [List.replicate_succ', ← List.append_assoc, trim_zero, trim_rep l n]
theorem trim_cases (l : List Int) : l = [] ∨ (∃ m, l = m ++ [0]) ∨ ∃ m x, l = m ++ [x] ∧ x ≠ 0 := by
  rcases List.eq_nil_or_concat l with h | ⟨m, x, h⟩
  · exact .inl h
  · rw [List.concat_eq_append] at h
    by_cases z : x = 0
    · exact .inr (.inl ⟨m, by rw [h, z]⟩)
    · exact .inr (.inr ⟨m, x, h, z⟩)
/-! the def that cuts them -/
def b_trim : Sms :=
 (.cons (.asg (.nm 1) (.bi .list (.cons (.var 0) .nil))) <|
 (.cons (.whl (.an (.var 1) (.cmp .eq (.idx (.var 1) (.neg (.cst (.int 1)))) (.cst (.int 0))))
  (.cons (.expr (.mth .pop (.var 1) .nil)) .nil)) <|
 (.cons (.ret (.var 1)) .nil)))
section
variable {Fs : List Fn} {G : List D} {w i : Nat}
structure TrI (S : Sto) (x : D) (ns : List Int) (ρ : Rho) (S1 : Sto) : Prop where
  ex : ∃ m : List Int, ρ = [some x, some (.ref S.length)] ∧ S1 = S ++ [.lst (m.map .int)] ∧ trimZ m = trimZ ns ∧ m.length ≤ ns.length
def lenL (S : Sto) (i : Nat) : Nat := match lstOf S i with
  | some l => l.length
  | none => 0
theorem trim_spec (hF : Fs[i]? = some ⟨1, 2, b_trim⟩) {K : Nat} (hK : 1 ≤ K) {S : Sto} {x : D} {ns : List Int} (h : seqOf S x = some (ns.map .int)) (hl : bi1 .list [x] S = some (.ref S.length, S ++ [.lst (ns.map .int)])) (hw : ns.length < w) :
    wp (run Fs G w K i [x] S) (fun d S' => d = .ref S.length ∧ S' = S ++ [.lst ((trimZ ns).map .int)]) nE := by
  obtain ⟨K, rfl⟩ := ge1 hK
  refine wp_run hF rfl ?_
  simp [b_trim, enter, hl]
  refine whL_by (TrI S x ns) (fun _ S1 => lenL S1 S.length) (fun ρ S1 hI => ?_) w _ _ ⟨ns, rfl, rfl, rfl, Nat.le_refl _⟩ (by simp [lenL]; exact hw)
  obtain ⟨m, rfl, rfl, hm, hle⟩ := hI
  simp
  rcases trim_cases m with rfl | ⟨m, rfl⟩ | ⟨m, y, rfl, hy⟩
  · simp
    rw [← hm]
    simp
  · have l1 := last_of m 0
    simp at l1
    have hm0 : mutOf (S ++ [Ob.lst (m.map D.int ++ [D.int 0])]) S.length = some (m.map .int ++ [.int 0]) := by simp [mutOf]
    have ne : (m ++ [(0 : Int)]).isEmpty = false := by cases m <;> rfl
    simp [ne, l1, m_popR hm0]
    refine ⟨⟨m, rfl, by simp, by rw [← hm, trim_zero], by simp at hle; omega⟩, ?_⟩
    simp [lenL]
  · have l1 := last_of m y
    simp at l1
    have ne : (m ++ [y]).isEmpty = false := by cases m <;> rfl
    simp [ne, l1]
    refine cas_beq (fun z => absurd z hy) (fun _ => ?_)
    simp
    rw [← hm, trim_ne _ hy]
    simp
end
/-! instances -/
theorem ins_of {S : Sto} {i c : Nat} {fs : List (Str × D)} (h : S[i]? = some (.ins c fs)) : insOf S i = some (c, fs) := by simp [insOf, h]
theorem fld_of {S : Sto} {i c : Nat} {fs : List (Str × D)} {cs : List Nat} {f : Str} {d : D} (h : S[i]? = some (.ins c fs)) (hc : cs.contains c = true) (hf : fs.lookup f = some d) : fld1 cs f S (.ref i) = some d := by
  show (match insOf S i with
    | some (c, fs) => if cs.contains c then fs.lookup f else none
    | none => none) = _
  rw [ins_of h]
  simp only [hc, if_true, hf]
theorem me_of {S : Sto} {i c : Nat} {fs : List (Str × D)} {m : Str} (h : S[i]? = some (.ins c fs)) (hf : fs.lookup m = none) : isMe c m S (.ref i) = true := by
  show (match insOf S i with
    | some (c', fs) => decide (c' = c) && (fs.lookup m).isNone
    | none => false) = _
  rw [ins_of h]
  simp [hf]
theorem sfl_of {S : Sto} {i c : Nat} {fs : List (Str × D)} {cs : List Nat} {f : Str} {d : D} (h : S[i]? = some (.ins c fs)) (hc : cs.contains c = true) (hl : fs.length < 1000) : sfl1 cs f S (.ref i) d = some (S.set i (.ins c (putD f d fs))) := by
  show (match insOf S i with
    | some (c, fs) => if cs.contains c ∧ fs.length < 1000 then some (S.set i (.ins c (putD f d fs))) else none
    | none => none) = _
  rw [ins_of h]
  simp only [hc, hl, and_self, if_true]
theorem locd_i {K : PySem.W.Frag} {ca : Nat → Addr} {mg : Str → Option Value} {r : Rw} {f : Addr} {c : Nat} (h : r.own = some (c, ("__init__" : Str))) (M : Mk K (ca c) f) (k : PySem.W.keepIn K (.ref f) = true) : locd K ca mg r f := by
  unfold locd
  rw [h]
  simp only [if_true]
  exact ⟨M, k⟩
theorem locd_m {K : PySem.W.Frag} {ca : Nat → Addr} {mg : Str → Option Value} {r : Rw} {f : Addr} {c : Nat} {m : Str} (h : r.own = some (c, m)) (hm : m ≠ "__init__") (M : Meth K (ca c) m f) : locd K ca mg r f := by
  unfold locd
  rw [h]
  simp only [if_neg hm]
  exact M
end Mx
set_option Elab.async false
set_option linter.all false
set_option maxRecDepth 100000
set_option maxHeartbeats 4000000
set_option exponentiation.threshold 8000
/-! lists of lists of ints -/
namespace Mx
open PySem L2
/-- refs to lists of ints -/
inductive LL (S : Sto) : List D → List (List Int) → Prop
  | nil : LL S [] []
  | cons {r : Nat} {l : List Int} {xs : List D} {ls : List (List Int)} : S[r]? = some (.lst (l.map .int)) → LL S xs ls → LL S (.ref r :: xs) (l :: ls)
theorem LL.mono {S S' : Sto} {xs : List D} {ls : List (List Int)} (h : LL S xs ls) (k : ∀ r l, D.ref r ∈ xs → S[r]? = some (.lst l) → S'[r]? = some (.lst l)) : LL S' xs ls := by
  induction h with
  | nil => exact .nil
  | cons h _ ih => exact .cons (k _ _ (by simp) h) (ih fun r l hr => k r l (List.mem_cons_of_mem _ hr))
theorem LL.ext {S S' : Sto} {xs : List D} {ls : List (List Int)} (h : LL S xs ls) (e : Ext S S') : LL S' xs ls := h.mono fun _ _ _ q => e.at q
theorem LL.app {S : Sto} {xs ys : List D} {ls ms : List (List Int)} (h : LL S xs ls) (g : LL S ys ms) : LL S (xs ++ ys) (ls ++ ms) := by
  induction h with
  | nil => exact g
  | cons h _ ih => exact .cons h ih
theorem LL.len {S : Sto} {xs : List D} {ls : List (List Int)} (h : LL S xs ls) : xs.length = ls.length := by
  induction h with
  | nil => rfl
  | cons _ _ ih => simp [ih]
theorem LL.get {S : Sto} {xs : List D} {ls : List (List Int)} (h : LL S xs ls) {i : Nat} {d : D} (e : xs[i]? = some d) : ∃ r l, d = .ref r ∧ ls[i]? = some l ∧ S[r]? = some (.lst (l.map .int)) := by
  induction h generalizing i with
  | nil => simp at e
  | cons h _ ih =>
    cases i with
    | zero => simp at e; subst e; exact ⟨_, _, rfl, rfl, h⟩
    | succ i => simpa using ih (i := i) (by simpa using e)
def pdL (ls : List (List Int)) : List PyData := ls.map fun l => .list (l.map PyData.int)
theorem pd2_of {S : Sto} {a : Nat} {xs : List Int} (h : lstOf S a = some (xs.map D.int)) : pdN 2 S (.ref a) = some (.list (xs.map PyData.int)) := by
  have m : ∀ l : List Int, mapO (pdN 1 S) (l.map D.int) = some (l.map PyData.int) := fun l => by
    induction l with
    | nil => rfl
    | cons x l ih =>
      simp only [List.map_cons, mapO]
      rw [ih]
      rw [pdN, pdW]
  rw [pdN, pdW, h]
  simp only [m]
  rfl
theorem pdN_LL {S : Sto} {q : Nat} {xs : List D} {ls : List (List Int)} (hq : lstOf S q = some xs) (h : LL S xs ls) : pdN 3 S (.ref q) = some (.list (pdL ls)) := by
  have m : mapO (pdN 2 S) xs = some (pdL ls) := by
    clear hq
    induction h with
    | nil => rfl
    | cons h _ ih =>
      simp only [mapO]
      rw [ih, pd2_of (lst_lst h)]
      rfl
  rw [pdN, pdW, hq]
  simp only [m]
  rfl
theorem shaped_LL (ls : List (List Int)) : SeqAt.shaped (.list (pdL ls)) = true := by
  have i1 : ∀ l : List Int, PyData.canLayAll0 (l.map PyData.int) = true ∧ PyData.depthAll (l.map PyData.int) = 0 := fun l => by
    induction l with
    | nil => exact ⟨rfl, rfl⟩
    | cons x l ih => simp [PyData.canLayAll0, PyData.canLay0, PyData.depthAll, PyData.depth, ih]
  have c : PyData.canLayAll0 (pdL ls) = true ∧ PyData.depthAll (pdL ls) ≤ 1 := by
    induction ls with
    | nil => exact ⟨rfl, by decide⟩
    | cons l ls ih =>
      obtain ⟨a1, a2⟩ := ih
      obtain ⟨b1, b2⟩ := i1 l
      simp only [pdL, List.map_cons] at a1 a2 ⊢
      refine ⟨?_, ?_⟩
      · rw [PyData.canLayAll0, PyData.canLay0, b1, a1]
        rfl
      · rw [PyData.depthAll, PyData.depth, b2]
        omega
  unfold SeqAt.shaped
  rw [PyData.canLay0, c.1, Bool.true_and, PyData.depth]
  have := c.2
  exact decide_eq_true (by omega)
theorem eqv_LL : ∀ ls ms : List (List Int), PyData.eqvAll (pdL ls) (pdL ms) = decide (ls = ms)
  | [], [] => by simp [pdL, PyData.eqvAll]
  | [], _ :: _ => by simp [pdL, PyData.eqvAll]
  | _ :: _, [] => by simp [pdL, PyData.eqvAll]
  | l :: ls, m :: ms => by
    have ih := eqv_LL ls ms
    simp only [pdL] at ih ⊢
    simp only [List.map_cons, PyData.eqvAll, PyData.eqv, ih, eqv_of, List.cons.injEq, Bool.decide_and]
theorem eqC_LL {S : Sto} {a b : Nat} {xs ys : List D} {ls ms : List (List Int)} (ha : lstOf S a = some xs) (hb : lstOf S b = some ys) (h1 : LL S xs ls) (h2 : LL S ys ms) : eqC S (.ref a) (.ref b) = some (decide (ls = ms)) := by
  show eqD S (.ref a) (.ref b) = _
  unfold eqD
  rw [pdN_LL ha h1, pdN_LL hb h2]
  simp only [shaped_LL, Bool.and_self, if_true, PyData.eqv, eqv_LL]
theorem isin_LL {S : Sto} {a : Nat} {l : List Int} {xs : List D} {ls : List (List Int)} (ha : lstOf S a = some (l.map .int)) (h : LL S xs ls) : isin S (.ref a) xs = some (decide (l ∈ ls)) := by
  induction h with
  | nil => rfl
  | cons h _ ih =>
    rename_i r m _ _ _
    have e : eqD S (.ref r) (.ref a) = some (decide (m = l)) := by
      unfold eqD
      rw [pdN_of (lst_lst h), pdN_of ha]
      simp only [shaped_of, Bool.and_self, if_true, PyData.eqv, eqv_of]
    simp only [isin, e, ih, List.mem_cons]
    congr 1
    rw [Bool.decide_or]
    congr 1
    exact decide_eq_decide.mpr ⟨fun h => h.symm, fun h => h.symm⟩
/-- each once, in the order of their first places -/
def ddp : List (List Int) → List (List Int) → List (List Int)
  | acc, [] => acc
  | acc, l :: ls => ddp (if l ∈ acc then acc else acc ++ [l]) ls
theorem ddp_app : ∀ (xs ys acc : List (List Int)), ddp acc (xs ++ ys) = ddp (ddp acc xs) ys
  | [], ys, acc => rfl
  | x :: xs, ys, acc => by simp only [List.cons_append, ddp]; exact ddp_app xs ys _
theorem ddp_one (acc xs : List (List Int)) (l : List Int) : ddp acc (xs ++ [l]) = if l ∈ ddp acc xs then ddp acc xs else ddp acc xs ++ [l] := by
  rw [ddp_app]
  rfl
theorem ddp_mem : ∀ (xs acc : List (List Int)) (l : List Int), l ∈ ddp acc xs → l ∈ acc ∨ l ∈ xs
  | [], acc, l, h => .inl h
  | x :: xs, acc, l, h => by
    rcases ddp_mem xs _ l h with h | h
    · split at h
      · exact .inl h
      · rcases List.mem_append.mp h with h | h
        · exact .inl h
        · exact .inr (by simp at h; simp [h])
    · exact .inr (List.mem_cons_of_mem _ h)
end Mx
set_option Elab.async false
set_option linter.all false
set_option maxRecDepth 100000
set_option maxHeartbeats 8000000
namespace K21
open PySem PySem.Spec PyProof.Rows L2 Mx
def tp (i : Nat) : Stmt := PySem.Challenge.pw_chance_k21_steps_down.main.body.getD i (.Pass ⟨0, 0, 0, 0⟩)
def T : Tb := { fn := ["trimmed", "candidates", "_lower", "_law_stream", "_law_take", "_law_cut", "_law_less", "law"], bis := ["len","abs","int","range","isinstance","list","tuple","sum"], mth := [], gl := [], gd := [], df := [] }
/-! 1: trimmed ["numbers", "found"] -/
def b_trimmed : Sms :=
 (.cons (.asg (.nm 1) (.bi .list (.cons (.var 0) .nil))) <|
 (.cons (.whl (.an (.var 1) (.cmp .eq (.idx (.var 1) (.neg (.cst (.int 1)))) (.cst (.int 0))))
  (.cons (.expr (.mth .pop (.var 1) .nil)) .nil)) <|
 (.cons (.ret (.var 1)) .nil)))
def rw_trimmed : Rw := ⟨"trimmed", (tp 1), ["numbers", "found"], ["numbers"], b_trimmed, [], none⟩
theorem ok_trimmed : rw_trimmed.Ok T := ⟨C8.fnScope_by (by decide +kernel), by rfl⟩
/-! 3: candidates ["numbers", "found", "at", "lower", "listed", "tape", "short"] -/
def b_candidates_5 : Sms := .cons (.ret (.o1 .dvl (.var 4))) .nil
def b_candidates_4 : Sms := .cons (.for (.nm 5) .val (.cons (.var 1) .nil)
  (.cons (.asg (.nm 6) (.cal 0 (.cons (.var 5) .nil))) <|
  (.cons (.dpt (.var 4) (.var 6) (.var 6)) .nil))) b_candidates_5
def b_candidates_3 : Sms := .cons (.asg (.nm 4) .dn) b_candidates_4
def b_candidates_2 : Sms := .cons (.for (.nm 2) .rng (.cons (.bi .len (.cons (.var 0) .nil)) .nil)
  (.cons (.for (.nm 3) .val (.cons (.cal 2 (.cons (.idx (.var 0) (.var 2)) .nil)) .nil)
   (.cons (.expr (.mth .append (.var 1) (.cons (.bin .add (.bin .add (.slc (.var 0) .nil (.cons (.var 2) .nil)) (.lst (.cons (.var 3) .nil))) (.slc (.var 0) (.cons (.bin .add (.var 2) (.cst (.int 1))) .nil) .nil)) .nil))) .nil)) .nil)) b_candidates_3
def b_candidates_1 : Sms := .cons (.for (.nm 2) .rng (.cons (.bi .len (.cons (.var 0) .nil)) .nil)
  (.cons (.expr (.mth .append (.var 1) (.cons (.bin .add (.slc (.var 0) .nil (.cons (.var 2) .nil)) (.slc (.var 0) (.cons (.bin .add (.var 2) (.cst (.int 1))) .nil) .nil)) .nil))) .nil)) b_candidates_2
def b_candidates : Sms := .cons (.asg (.nm 1) (.lst .nil)) b_candidates_1
def rw_candidates : Rw := ⟨"candidates", (tp 3), ["numbers", "found", "at", "lower", "listed", "tape", "short"], ["numbers"], b_candidates, [], none⟩
theorem ok_candidates : rw_candidates.Ok T := ⟨C8.fnScope_by (by decide +kernel), by rfl⟩
/-! 4: _lower ["number", "found", "power"] -/
def b__lower_4 : Sms := .cons (.ret (.var 1)) .nil
def b__lower_3 : Sms := .cons (.whl (.cmp .gt (.var 2) (.cst (.int 0)))
  (.cons (.expr (.mth .append (.var 1) (.cons (.bin .sub (.var 0) (.var 2)) .nil))) <|
  (.cons (.asg (.nm 2) (.bin .shr (.var 2) (.cst (.int 1)))) .nil))) b__lower_4
def b__lower_2 : Sms := .cons (.asg (.nm 2) (.bin .shl (.cst (.int 1)) (.bin .sub (.o1 .bits (.var 0)) (.cst (.int 1))))) b__lower_3
def b__lower_1 : Sms := .cons (.asg (.nm 1) (.lst (.cons (.cst (.int 0)) .nil))) b__lower_2
def b__lower : Sms := .cons (.iff (.cmp .eq (.var 0) (.cst (.int 0)))
  (.cons (.ret (.lst .nil)) .nil)
  .nil) b__lower_1
def rw__lower : Rw := ⟨"_lower", (tp 4), ["number", "found", "power"], ["number"], b__lower, [], none⟩
theorem ok__lower : rw__lower.Ok T := ⟨C8.fnScope_by (by decide +kernel), by rfl⟩
/-! 6: _law_stream ["script", "row", "cell", "left", "k", "seed"] -/
def b__law_stream_5 : Sms := .cons (.ret (.var 1)) .nil
def b__law_stream_4 : Sms := .cons (.for (.nm 4) .rng (.cons (.cst (.int 150)) .nil)
  (.cons (.asg (.nm 5) (.bin .mod (.bi .int (.cons (.bin .add (.bin .add (.bin .mul (.var 5) (.cst (.int 48271))) (.bin .mul (.var 4) (.cst (.int 69621)))) (.cst (.int 11))) .nil)) (.cst (.int 2147483647)))) <|
  (.cons (.expr (.mth .append (.var 1) (.cons (.bin .mod (.bin .fdiv (.var 5) (.cst (.int 1009))) (.cst (.int 59))) .nil))) .nil))) b__law_stream_5
def b__law_stream_3 : Sms := .cons (.for (.nm 2) .val (.cons (.slc (.var 0) .nil (.cons (.cst (.int 63)) .nil)) .nil)
  (.cons (.asg (.nm 5) (.bin .mod (.bi .int (.cons (.bin .add (.bin .add (.bin .mul (.var 5) (.cst (.int 131))) (.var 2)) (.cst (.int 17))) .nil)) (.cst (.int 1000003)))) .nil)) b__law_stream_4
def b__law_stream_2 : Sms := .cons (.asg (.nm 5) (.cst (.int 7))) b__law_stream_3
def b__law_stream_1 : Sms := .cons (.for (.nm 2) .val (.cons (.slc (.var 0) .nil (.cons (.cst (.int 63)) .nil)) .nil)
  (.cons (.asg (.nm 3) (.bi .abs (.cons (.bi .int (.cons (.var 2) .nil)) .nil))) <|
  (.cons (.for (.nm 4) .rng (.cons (.cst (.int 60)) .nil)
   (.cons (.expr (.mth .append (.var 1) (.cons (.bin .mod (.var 3) (.cst (.int 59))) .nil))) <|
   (.cons (.asg (.nm 3) (.bin .fdiv (.var 3) (.cst (.int 59)))) <|
   (.cons (.iff (.cmp .eq (.var 3) (.cst (.int 0)))
    (.cons .brk .nil)
    .nil) .nil)))) .nil))) b__law_stream_2
def b__law_stream : Sms := .cons (.asg (.nm 1) (.lst (.cons (.cst (.int 1)) .nil))) b__law_stream_1
def rw__law_stream : Rw := ⟨"_law_stream", (tp 6), ["script", "row", "cell", "left", "k", "seed"], ["script"], b__law_stream, [], none⟩
theorem ok__law_stream : rw__law_stream.Ok T := ⟨C8.fnScope_by (by decide +kernel), by rfl⟩
/-! 7: _law_take ["row", "many"] -/
def b__law_take : Sms :=
 (.cons (.iff (.cmp .lt (.idx (.var 0) (.cst (.int 0))) (.bi .len (.cons (.var 0) .nil)))
  (.cons (.seti (.var 0) (.cst (.int 0)) (.bin .add (.idx (.var 0) (.cst (.int 0))) (.cst (.int 1)))) <|
  (.cons (.ret (.bin .mod (.bi .int (.cons (.idx (.var 0) (.bin .sub (.idx (.var 0) (.cst (.int 0))) (.cst (.int 1)))) .nil)) (.var 1))) .nil))
  .nil) <|
 (.cons (.ret (.cst (.int 0))) .nil))
def rw__law_take : Rw := ⟨"_law_take", (tp 7), ["row", "many"], ["row", "many"], b__law_take, [], none⟩
theorem ok__law_take : rw__law_take.Ok T := ⟨C8.fnScope_by (by decide +kernel), by rfl⟩
/-! 8: _law_cut ["numbers", "found", "k"] -/
def b__law_cut : Sms :=
 (.cons (.asg (.nm 1) (.bi .list (.cons (.var 0) .nil))) <|
 (.cons (.for (.nm 2) .rng (.cons (.bi .len (.cons (.var 0) .nil)) .nil)
  (.cons (.iff (.an (.var 1) (.cmp .eq (.idx (.var 1) (.neg (.cst (.int 1)))) (.cst (.int 0))))
   (.cons (.asg (.nm 1) (.slc (.var 1) .nil (.cons (.neg (.cst (.int 1))) .nil))) .nil)
   .nil) .nil)) <|
 (.cons (.ret (.var 1)) .nil)))
def rw__law_cut : Rw := ⟨"_law_cut", (tp 8), ["numbers", "found", "k"], ["numbers"], b__law_cut, [], none⟩
theorem ok__law_cut : rw__law_cut.Ok T := ⟨C8.fnScope_by (by decide +kernel), by rfl⟩
/-! 9: _law_less ["number", "found", "k", "power"] -/
def b__law_less_3 : Sms := .cons (.ret (.var 1)) .nil
def b__law_less_2 : Sms := .cons (.iff (.cmp .gt (.var 0) (.cst (.int 0)))
  (.cons (.asg (.nm 1) (.bin .add (.lst (.cons (.cst (.int 0)) .nil)) (.var 1))) .nil)
  .nil) b__law_less_3
def b__law_less_1 : Sms := .cons (.for (.nm 2) .rng (.cons (.cst (.int 60)) .nil)
  (.cons (.asg (.nm 3) (.bin .shl (.cst (.int 1)) (.bin .sub (.cst (.int 59)) (.var 2)))) <|
  (.cons (.iff (.cmp .le (.var 3) (.var 0))
   (.cons (.expr (.mth .append (.var 1) (.cons (.bin .sub (.var 0) (.var 3)) .nil))) .nil)
   .nil) .nil))) b__law_less_2
def b__law_less : Sms := .cons (.asg (.nm 1) (.lst .nil)) b__law_less_1
def rw__law_less : Rw := ⟨"_law_less", (tp 9), ["number", "found", "k", "power"], ["number"], b__law_less, [], none⟩
theorem ok__law_less : rw__law_less.Ok T := ⟨C8.fnScope_by (by decide +kernel), by rfl⟩
/-! 10: law ["script", "row", "k", "tape", "kept", "due", "less", "once", "one", "told"] -/
def b_law_13 : Sms := .cons (.ret (.cst (.bl true))) .nil
def b_law_12 : Sms := .cons (.for (.nm 8) .val (.cons (.var 9) .nil)
  (.cons (.iff (.or (.cmp .gt (.bi .len (.cons (.var 8) .nil)) (.bi .len (.cons (.var 3) .nil))) (.an (.cmp .eq (.bi .len (.cons (.var 8) .nil)) (.bi .len (.cons (.var 3) .nil))) (.cmp .ge (.bi .sum (.cons (.var 8) .nil)) (.bi .sum (.cons (.var 3) .nil)))))
   (.cons (.ret (.cst (.bl false))) .nil)
   .nil) .nil)) b_law_13
def b_law_11 : Sms := .cons (.iff (.or (.nt (.isi (.var 9) .list)) (.or (.cmp .ne (.var 9) (.var 7)) (.cmp .ne (.var 3) (.var 4))))
  (.cons (.ret (.cst (.bl false))) .nil)
  .nil) b_law_12
def b_law_10 : Sms := .cons (.asg (.nm 9) (.cal 1 (.cons (.var 3) .nil))) b_law_11
def b_law_9 : Sms := .cons (.for (.nm 8) .val (.cons (.var 5) .nil)
  (.cons (.iff (.cmp .notin (.var 8) (.var 7))
   (.cons (.expr (.mth .append (.var 7) (.cons (.var 8) .nil))) .nil)
   .nil) .nil)) b_law_10
def b_law_8 : Sms := .cons (.asg (.nm 7) (.lst .nil)) b_law_9
def b_law_7 : Sms := .cons (.for (.nm 2) .rng (.cons (.bi .len (.cons (.var 3) .nil)) .nil)
  (.cons (.for (.nm 6) .val (.cons (.cal 6 (.cons (.idx (.var 3) (.var 2)) .nil)) .nil)
   (.cons (.expr (.mth .append (.var 5) (.cons (.cal 5 (.cons (.bin .add (.bin .add (.slc (.var 3) .nil (.cons (.var 2) .nil)) (.lst (.cons (.var 6) .nil))) (.slc (.var 3) (.cons (.bin .add (.var 2) (.cst (.int 1))) .nil) .nil)) .nil)) .nil))) .nil)) .nil)) b_law_8
def b_law_6 : Sms := .cons (.for (.nm 2) .rng (.cons (.bi .len (.cons (.var 3) .nil)) .nil)
  (.cons (.expr (.mth .append (.var 5) (.cons (.cal 5 (.cons (.bin .add (.slc (.var 3) .nil (.cons (.var 2) .nil)) (.slc (.var 3) (.cons (.bin .add (.var 2) (.cst (.int 1))) .nil) .nil)) .nil)) .nil))) .nil)) b_law_7
def b_law_5 : Sms := .cons (.asg (.nm 5) (.lst .nil)) b_law_6
def b_law_4 : Sms := .cons (.asg (.nm 4) (.bi .list (.cons (.var 3) .nil))) b_law_5
def b_law_3 : Sms := .cons (.asg (.nm 3) (.cal 5 (.cons (.var 3) .nil))) b_law_4
def b_law_2 : Sms := .cons (.iff (.an (.var 3) (.cmp .eq (.cal 4 (.cons (.var 1) (.cons (.cst (.int 4)) .nil))) (.cst (.int 0))))
  (.cons (.seti (.var 3) (.cal 4 (.cons (.var 1) (.cons (.bi .len (.cons (.var 3) .nil)) .nil))) (.bin .add (.bin .add (.bin .mul (.cal 4 (.cons (.var 1) (.cons (.cst (.int 59)) .nil))) (.bin .pow (.cst (.int 59)) (.cst (.int 5)))) (.bin .mul (.cal 4 (.cons (.var 1) (.cons (.cst (.int 59)) .nil))) (.cst (.int 59)))) (.cst (.int 1)))) .nil)
  .nil) b_law_3
def b_law_1 : Sms := .cons (.asg (.nm 3) (.lc (.cal 4 (.cons (.var 1) (.cons (.cst (.int 59)) .nil))) [2] (.nm 2) .rng (.cons (.cal 4 (.cons (.var 1) (.cons (.cst (.int 9)) .nil))) .nil) .nil)) b_law_2
def b_law : Sms := .cons (.asg (.nm 1) (.cal 3 (.cons (.var 0) .nil))) b_law_1
def rw_law : Rw := ⟨"law", (tp 10), ["script", "row", "k", "tape", "kept", "due", "less", "once", "one", "told"], ["script"], b_law, [], none⟩
theorem ok_law : rw_law.Ok T := ⟨C8.fnScope_by (by decide +kernel), by rfl⟩
def rows : List Rw := [rw_trimmed, rw_candidates, rw__lower, rw__law_stream, rw__law_take, rw__law_cut, rw__law_less, rw_law]
def Fs : List Fn := rows.map Rw.fn
def G : List D := []
abbrev Rn (k : Nat) := run Fs G 100 k
theorem trimF : Fs[0]? = some ⟨1, 2, b_trim⟩ := rfl
theorem streamF : Fs[3]? = some ⟨1, 6, b_stream⟩ := rfl
theorem takeF : Fs[4]? = some ⟨2, 2, b_take⟩ := rfl
end K21
set_option Elab.async false
set_option linter.all false
set_option maxRecDepth 100000
set_option maxHeartbeats 4000000
set_option exponentiation.threshold 8000
namespace K21
open PySem L2 Mx
/-- n less each power of two from 2 ^ j down -/
def dn : Nat → Int → List Int
  | 0, n => [n - 1]
  | j + 1, n => (n - 2 ^ (j + 1)) :: dn j n
def lower (n : Int) : List Int := if n = 0 then [] else 0 :: dn (Nat.log2 n.toNat) n
theorem dn_len : ∀ (j : Nat) (n : Int), (dn j n).length = j + 1
  | 0, _ => rfl
  | j + 1, n => by simp [dn, dn_len j n]
/-- what is still to come while the power is p -/
structure LoI (S : Sto) (n : Int) (J : Nat) (ρ : Rho) (S1 : Sto) : Prop where
  ex : ∃ (p : Int) (F R : List Int), ρ = [some (.int n), some (.ref S.length), some (.int p)] ∧ S1 = S ++ [.lst (F.map .int)] ∧ F ++ R = 0 :: dn J n ∧ ((p = 0 ∧ R = []) ∨ ∃ j : Nat, p = 2 ^ j ∧ R = dn j n)
theorem half_pow (j : Nat) : ((2 : Int) ^ (j + 1)) / 2 ^ (Int.toNat 1) = 2 ^ j := by
  rw [Int.pow_succ]
  exact Int.mul_ediv_cancel _ (by decide)
theorem lower_spec {K : Nat} (hK : 1 ≤ K) {S : Sto} {n : Int} (h0 : 0 ≤ n) (h1 : n < 2 ^ 60) : wp (Rn K 2 [.int n] S) (fun d S' => NewL S S' d ((lower n).map .int)) nE := by
  obtain ⟨K, rfl⟩ := ge1 hK
  refine wp_run (F := rw__lower.fn) rfl rfl ?_
  show wpS (exs _ _ _ b__lower _ _) _ _
  have l0 : 0 ≤ LIM := by decide
  have l1 : 1 ≤ LIM := by decide
  simp [b__lower, rw__lower, Rw.fn, enter]
  refine cas_beq (fun h => ?_) (fun h => ?_)
  · subst h
    simp [l0]
    exact NewL.app
  obtain ⟨m, rfl⟩ := Int.eq_ofNat_of_zero_le h0
  have m0 : m ≠ 0 := by omega
  have eb : (Builtin.Int.intBits (m : Int) : Nat) = Nat.log2 m + 1 := by
    simp [Builtin.Int.intBits, m0]
  have lg : Nat.log2 m < 60 := (Nat.log2_lt m0).mpr (by have : (m : Int) < 2 ^ 60 := h1; exact_mod_cast this)
  simp [b__lower_1, b__lower_2, b__lower_3, l1, eb]
  have e1 : op2 .shl (.int 1) (.int ((Nat.log2 m : Nat) : Int)) (S ++ [Ob.lst [D.int 0]]) = some (.int (2 ^ Nat.log2 m), S ++ [Ob.lst [D.int 0]]) := by
    simp [op2]
    omega
  have e2 : ((Nat.log2 m : Nat) : Int) + 1 - 1 = (Nat.log2 m : Nat) := by omega
  simp [e2, e1]
  have low : lower (m : Int) = 0 :: dn (Nat.log2 m) m := by
    unfold lower
    rw [if_neg (by omega)]
    rfl
  refine whL_by (LoI S m (Nat.log2 m)) (fun _ S1 => 100 - lenL S1 S.length) (fun ρ S1 hI => ?_) 100 _ _ ⟨_, [0], _, rfl, rfl, rfl, .inr ⟨_, rfl, rfl⟩⟩ (by simp [lenL])
  obtain ⟨p, F, R, rfl, rfl, hF, hp⟩ := hI
  have hlen := congrArg List.length hF
  simp [dn_len] at hlen
  simp
  rcases hp with ⟨rfl, rfl⟩ | ⟨j, rfl, rfl⟩
  · simp [b__lower_4]
    rw [List.append_nil] at hF
    rw [low, ← hF]
    exact NewL.app
  · have pos : (0 : Int) < 2 ^ j := Int.pow_pos (by decide)
    have fl : F.length < LIM := by unfold LIM; omega
    rw [dn_len] at hlen
    refine cas_dec (fun _ => ?_) (fun z => absurd pos z)
    simp [fl]
    cases j with
    | zero =>
      refine ⟨⟨_, F ++ [(m : Int) - 1], [], rfl, by simp, by rw [← hF]; simp [dn], .inl ⟨by decide, rfl⟩⟩, ?_⟩
      simp [lenL]
      omega
    | succ j =>
      have hp := half_pow j
      refine ⟨⟨_, F ++ [(m : Int) - 2 ^ (j + 1)], dn j m, rfl, by simp, by rw [← hF]; simp [dn], .inr ⟨j, hp, rfl⟩⟩, ?_⟩
      simp [lenL]
      omega
/-! the law's own -/
/-- the powers from 2 ^ j down that fit -/
def up : Nat → Int → List Int
  | 0, n => if 1 ≤ n then [n - 1] else []
  | j + 1, n => (if 2 ^ (j + 1) ≤ n then [n - 2 ^ (j + 1)] else []) ++ up j n
theorem up_all : ∀ (j : Nat) (n : Int), 2 ^ j ≤ n → up j n = dn j n
  | 0, n, h => by simp [up, dn]; omega
  | j + 1, n, h => by
    have : (2 : Int) ^ j ≤ 2 ^ (j + 1) := by rw [Int.pow_succ]; have : (0 : Int) < 2 ^ j := Int.pow_pos (by decide); omega
    rw [up, if_pos h, up_all j n (by omega)]
    rfl
theorem up_dn : ∀ (j m : Nat), m ≠ 0 → m < 2 ^ (j + 1) → up j m = dn (Nat.log2 m) m
  | 0, m, h0, h1 => by
    have : m = 1 := by omega
    subst this
    rfl
  | j + 1, m, h0, h1 => by
    by_cases h : 2 ^ (j + 1) ≤ m
    · have e : Nat.log2 m = j + 1 := (Nat.log2_eq_iff h0).mpr ⟨h, h1⟩
      rw [e]
      exact up_all _ _ (by exact_mod_cast h)
    · have : ¬ (2 : Int) ^ (j + 1) ≤ (m : Int) := by exact_mod_cast h
      rw [up, if_neg this, List.nil_append]
      exact up_dn j m h0 (by omega)
theorem up_zero : ∀ j, up j 0 = []
  | 0 => rfl
  | j + 1 => by
    have : (0 : Int) < 2 ^ (j + 1) := Int.pow_pos (by decide)
    rw [up, if_neg (by omega), List.nil_append, up_zero j]
theorem get3 {S : Sto} {a b c : Ob} : (S ++ [a, b, c])[S.length + 1 + 1]? = some c := by
  rw [List.getElem?_append_right (by omega)]
  have : S.length + 1 + 1 - S.length = 2 := by omega
  rw [this]
  rfl
structure LsI (S : Sto) (n : Int) (k : Nat) (ρ : Rho) (S1 : Sto) : Prop where
  ex : ∃ (x y : Option D) (F R : List Int), ρ = [some (.int n), some (.ref S.length), x, y] ∧ S1 = S ++ [.lst (F.map .int)] ∧ F ++ R = up 59 n ∧ F.length ≤ k ∧ R = if k = 60 then [] else up (59 - k) n
theorem less_spec {K : Nat} (hK : 1 ≤ K) {S : Sto} {n : Int} (h0 : 0 ≤ n) (h1 : n < 2 ^ 60) : wp (Rn K 6 [.int n] S) (fun d S' => NewL S S' d ((lower n).map .int)) nE := by
  obtain ⟨K, rfl⟩ := ge1 hK
  refine wp_run (F := rw__law_less.fn) rfl rfl ?_
  show wpS (exs _ _ _ b__law_less _ _) _ _
  have l0 : 0 ≤ LIM := by decide
  have l1 : 1 ≤ LIM := by decide
  simp [b__law_less, b__law_less_1, rw__law_less, Rw.fn, enter, l0]
  refine ⟨by decide, ?_⟩
  obtain ⟨rg, hrg⟩ : ∃ rg, rg = rng 0 60 := ⟨_, rfl⟩
  have rl : rg.length = 60 := by rw [hrg]; exact rng_len 0 60
  rw [← hrg]
  refine forL_items (LsI S n) (fun k ρ S2 d hd q => ?_) (fun ρ S2 q => ?_) _ 0 _ _ (by omega) (by omega) ⟨_, _, [], up 59 n, rfl, rfl, List.nil_append _, Nat.le_refl _, (if_neg (by decide)).symm⟩
  · obtain ⟨hk, rfl⟩ := rng_get (hrg ▸ hd)
    obtain ⟨x, y, F, R, rfl, rfl, hF, hl, hR⟩ := q
    have hk' : k < 60 := hk
    rw [if_neg (by omega)] at hR
    refine ⟨_, rfl, ?_⟩
    have e2 : (59 : Int) - (k : Int) = ((59 - k : Nat) : Int) := by omega
    have e1 : op2 .shl (.int 1) (.int ((59 - k : Nat) : Int)) (S ++ [Ob.lst (F.map D.int)]) = some (.int (2 ^ (59 - k)), S ++ [Ob.lst (F.map D.int)]) := by
      simp [op2]
      omega
    simp [e2, e1]
    have nx : ∀ G : List Int, G ++ (if k + 1 = 60 then [] else up (59 - (k + 1)) n) = up 59 n → G.length ≤ k + 1 → ∀ y', LsI S n (k + 1) [some (.int n), some (.ref S.length), some (.int (k : Int)), y'] (S ++ [.lst (G.map .int)]) := fun G h1 h2 y' => ⟨_, _, G, _, rfl, rfl, h1, h2, rfl⟩
    have st : R = (if 2 ^ (59 - k) ≤ n then [n - 2 ^ (59 - k)] else []) ++ (if k + 1 = 60 then [] else up (59 - (k + 1)) n) := by
      rw [hR]
      by_cases z : k + 1 = 60
      · have : k = 59 := by omega
        subst this
        simp [up]
      · rw [if_neg z]
        have : 59 - k = (59 - (k + 1)) + 1 := by omega
        rw [this, up]
    refine cas_dec (fun hle => ?_) (fun hle => ?_)
    · have fl : F.length < LIM := by unfold LIM; omega
      simp [fl]
      have := nx (F ++ [n - 2 ^ (59 - k)]) (by rw [← hF, st, if_pos hle]; simp) (by simp; omega) (some (.int (2 ^ (59 - k))))
      simpa using this
    · simp
      exact nx F (by rw [← hF, st, if_neg hle]; simp) (by omega) _
  · obtain ⟨x, y, F, R, rfl, rfl, hF, hl, hR⟩ := q
    rw [rl] at hR hl
    rw [if_pos rfl] at hR
    subst hR
    rw [List.append_nil] at hF
    have hl' : F.length ≤ 60 := hl
    obtain ⟨m, rfl⟩ := Int.eq_ofNat_of_zero_le h0
    simp [b__law_less_2]
    refine cas_dec (fun hp => ?_) (fun hp => ?_)
    · have ln : F.length + 1 ≤ LIM := by unfold LIM; omega
      have hm : mutOf (S ++ [Ob.lst (F.map D.int), Ob.lst [D.int 0]]) (S.length + 1) = some [D.int 0] := by simp [mutOf]
      have hm2 : mutOf (S ++ [Ob.lst (F.map D.int), Ob.lst [D.int 0]]) S.length = some (F.map D.int) := by simp [mutOf]
      have m0 : m ≠ 0 := by omega
      have low : lower (m : Int) = 0 :: F := by
        unfold lower
        rw [if_neg (by omega), hF, up_dn 59 m m0 (by have : (m : Int) < 2 ^ 60 := h1; exact_mod_cast this)]
        rfl
      simp [l1, o_addR', hm, hm2, b__law_less_3]
      refine ⟨by unfold LIM; omega, ?_⟩
      rw [low]
      exact ⟨Ext.app _ _, _, rfl, by omega, get3⟩
    · have m0 : m = 0 := by omega
      subst m0
      have low : lower ((0 : Nat) : Int) = F := by
        rw [hF]
        exact (up_zero 59).symm
      simp [b__law_less_3]
      have low' : lower 0 = F := low
      rw [low']
      exact NewL.app
end K21
set_option Elab.async false
set_option linter.all false
set_option maxRecDepth 100000
set_option maxHeartbeats 4000000
set_option exponentiation.threshold 8000
namespace K21
open PySem L2 Mx
/-! _law_cut -/
structure CuI (S : Sto) (r : Nat) (pl : List Int) (i : Nat) (ρ : Rho) (S1 : Sto) : Prop where
  ex : ∃ (x : Option D) (e : Nat) (D' : List Int), ρ = [some (.ref r), some (.ref e), x] ∧ S1[e]? = some (.lst (D'.map .int)) ∧ S.length ≤ e ∧ trimZ D' = trimZ pl ∧ (trimZ D' = D' ∨ D'.length + i = pl.length)
  ext : Ext S S1
theorem trim_le (l : List Int) : (trimZ l).length ≤ l.length := by
  unfold trimZ
  have : ∀ l : List Int, (zF l).length ≤ l.length := fun l => by
    induction l with
    | nil => exact Nat.le_refl _
    | cons x l ih => simp only [zF]; split <;> simp <;> omega
  simpa using this l.reverse
theorem cut_spec {K : Nat} (hK : 1 ≤ K) {S : Sto} {r : Nat} {pl : List Int} (h : S[r]? = some (.lst (pl.map .int))) (hl : pl.length < 1000) : wp (Rn K 5 [.ref r] S) (fun d S' => NewL S S' d ((trimZ pl).map .int)) nE := by
  obtain ⟨K, rfl⟩ := ge1 hK
  refine wp_run (F := rw__law_cut.fn) rfl rfl ?_
  show wpS (exs _ _ _ b__law_cut _ _) _ _
  have lr := lt_of_get h
  have hg : lstOf (S ++ [Ob.lst (pl.map D.int)]) r = some (pl.map .int) := by rw [lst_app lr]; exact lst_lst h
  simp [b__law_cut, rw__law_cut, Rw.fn, enter, lst_lst h, hg]
  refine ⟨okR_of (by omega) (by omega), ?_⟩
  refine forL_items (CuI S r pl) (fun i ρ S2 d hd q => ?_) (fun ρ S2 q => ?_) _ 0 _ _ (by simp) (by omega) ⟨⟨_, _, pl, rfl, by simp, Nat.le_refl _, rfl, .inr rfl⟩, Ext.app _ _⟩
  · obtain ⟨hi, rfl⟩ := rng_get hd
    obtain ⟨⟨x, e, D', rfl, e1, e0, e2, e3⟩, hx⟩ := q
    refine ⟨_, rfl, ?_⟩
    simp [tru, lst_lst e1]
    rcases trim_cases D' with rfl | ⟨D', rfl⟩ | ⟨D', y, rfl, hy⟩
    · simp
      exact ⟨⟨_, _, [], rfl, e1, e0, e2, .inl rfl⟩, hx⟩
    · have l1 := last_of D' 0
      have c1 := init_of D' 0
      simp at l1 c1
      have ne : (D' ++ [(0 : Int)]).isEmpty = false := by cases D' <;> rfl
      simp [ne, lst_lst e1, l1, c1]
      refine ⟨⟨_, _, D', rfl, by simp, hx.len, by rw [← e2, trim_zero], ?_⟩, hx.trans (Ext.app _ _)⟩
      rcases e3 with e3 | e3
      · rw [trim_zero] at e3
        have := trim_le D'
        rw [e3] at this
        simp at this
        exact absurd this (by omega)
      · exact .inr (by simp at e3; omega)
    · have l1 := last_of D' y
      simp at l1
      have ne : (D' ++ [y]).isEmpty = false := by cases D' <;> rfl
      simp [ne, lst_lst e1, l1]
      refine cas_beq (fun z => absurd z hy) (fun _ => ?_)
      simp
      exact ⟨⟨_, _, D' ++ [y], rfl, by simpa using e1, e0, e2, .inl (trim_ne _ hy)⟩, hx⟩
  · obtain ⟨⟨x, e, D', rfl, e1, e0, e2, e3⟩, hx⟩ := q
    rw [rng_len] at e3
    have eD : D' = trimZ pl := by
      rcases e3 with e3 | e3
      · rw [← e3, e2]
      · have : D' = [] := by simpa using e3
        subst this
        rw [← e2]
        rfl
    subst eD
    simp
    exact ⟨hx, _, rfl, e0, e1⟩
end K21
set_option Elab.async false
set_option linter.all false
set_option maxRecDepth 100000
set_option maxHeartbeats 1000000
set_option exponentiation.threshold 8000
namespace K21
open PySem L2 Mx
theorem LL.mono' {S S' : Sto} {xs : List D} {ls : List (List Int)} (h : LL S xs ls) (k : ∀ r (l : List Int), D.ref r ∈ xs → S[r]? = some (.lst (l.map .int)) → S'[r]? = some (.lst (l.map .int))) : LL S' xs ls := by
  induction h with
  | nil => exact .nil
  | cons h _ ih => exact .cons (k _ _ (by simp) h) (ih fun r l hr => k r l (List.mem_cons_of_mem _ hr))
theorem LL.put {S : Sto} {xs : List D} {ls : List (List Int)} {e : Nat} (h : LL S xs ls) (he : S[e]? = some (.lst xs)) (o : Ob) : LL (S.set e o) xs ls := by
  refine LL.mono' h fun r l hr q => ?_
  have ne : r ≠ e := by
    rintro rfl
    rw [he] at q
    simp only [Option.some.injEq, Ob.lst.injEq] at q
    rw [q] at hr
    obtain ⟨x, _, hx⟩ := List.mem_map.mp hr
    cases hx
  rw [List.getElem?_set_ne (fun z => ne z.symm)]
  exact q
theorem LL.putD {S : Sto} {xs : List D} {ls : List (List Int)} {e : Nat} {kvs : List (List Int × D)} (h : LL S xs ls) (he : S[e]? = some (.dct kvs)) (o : Ob) : LL (S.set e o) xs ls := by
  refine h.mono fun r l hr q => ?_
  have ne : r ≠ e := by
    rintro rfl
    rw [he] at q
    cases q
  rw [List.getElem?_set_ne (fun z => ne z.symm)]
  exact q
theorem push {S1 S2 : Sto} {e : Nat} {xs : List D} {ls : List (List Int)} {d : D} {l : List Int} (h : S1[e]? = some (.lst xs)) (L : LL S1 xs ls) (n : NewL S1 S2 d (l.map .int)) :
    S2[e]? = some (.lst xs) ∧ (S2.set e (.lst (xs ++ [d])))[e]? = some (.lst (xs ++ [d])) ∧ LL (S2.set e (.lst (xs ++ [d]))) (xs ++ [d]) (ls ++ [l]) := by
  have h2 := n.ext.at h
  obtain ⟨r, rfl, hr, q⟩ := n.ex
  have le := lt_of_get h
  have le2 := lt_of_get h2
  refine ⟨h2, by simp [le2], LL.app (LL.put (LL.ext L n.ext) h2 _) (.cons ?_ .nil)⟩
  rw [List.getElem?_set_ne (by omega)]
  exact q
def er (k : Nat) (pl : List Int) : List Int := pl.take k ++ pl.drop (k + 1)
def lo (k : Nat) (pl : List Int) (x : Int) : List Int := pl.take k ++ [x] ++ pl.drop (k + 1)
def F1 (pl : List Int) (j : Nat) : List (List Int) := (List.range j).map fun k => er k pl
def lv (pl : List Int) (k : Nat) : List (List Int) := (lower (pl.getD k 0)).map (lo k pl)
def F2 (pl : List Int) (j : Nat) : List (List Int) := (List.range j).flatMap (lv pl)
theorem F1_s (pl : List Int) (j : Nat) : F1 pl (j + 1) = F1 pl j ++ [er j pl] := by simp [F1, List.range_succ]
theorem F2_s (pl : List Int) (j : Nat) : F2 pl (j + 1) = F2 pl j ++ lv pl j := by simp [F2, List.range_succ]
theorem F1_len (pl : List Int) (j : Nat) : (F1 pl j).length = j := by simp [F1]
theorem lower_len {n : Int} (h0 : 0 ≤ n) (h1 : n < 2 ^ 60) : (lower n).length ≤ 61 := by
  unfold lower
  split
  · exact Nat.zero_le _
  · rename_i h
    obtain ⟨m, rfl⟩ := Int.eq_ofNat_of_zero_le h0
    have lg : Nat.log2 m < 60 := (Nat.log2_lt (by omega)).mpr (by have : (m : Int) < 2 ^ 60 := h1; exact_mod_cast this)
    rw [List.length_cons, dn_len]
    show Nat.log2 m + 1 + 1 ≤ 61
    omega
theorem F2_len {pl : List Int} (hp : ∀ x ∈ pl, (0 : Int) ≤ x ∧ x < 2 ^ 60) : ∀ j, j ≤ pl.length → (F2 pl j).length ≤ 61 * j
  | 0, _ => Nat.le_refl _
  | j + 1, h => by
    rw [F2_s, List.length_append]
    have := F2_len hp j (by omega)
    have l : (lv pl j).length ≤ 61 := by
      unfold lv
      rw [List.length_map]
      have := hp (pl.getD j 0) (by rw [List.getD_eq_getElem?_getD, List.getElem?_eq_getElem (by omega), Option.getD_some]; exact List.getElem_mem _)
      exact lower_len this.1 this.2
    omega
/-! the two expressions -/
def eE (a i : Nat) : Ex := .bin .add (.slc (.var a) .nil (.cons (.var i) .nil)) (.slc (.var a) (.cons (.bin .add (.var i) (.cst (.int 1))) .nil) .nil)
def eL (a i x : Nat) : Ex := .bin .add (.bin .add (.slc (.var a) .nil (.cons (.var i) .nil)) (.lst (.cons (.var x) .nil))) (.slc (.var a) (.cons (.bin .add (.var i) (.cst (.int 1))) .nil) .nil)
theorem cut_lo (pl : List Int) (k : Nat) : cutD (pl.map D.int) none (some (k : Int)) = (pl.take k).map D.int := cut_ints pl k
theorem cut_hi {pl : List Int} {k : Nat} (h : k < pl.length) : cutD (pl.map D.int) (some ((k : Int) + 1)) none = (pl.drop (k + 1)).map D.int := by
  have := cut_drop' ((pl.take (k + 1)).map D.int) ((pl.drop (k + 1)).map D.int) ((k : Int) + 1) (by simp; omega)
  rwa [← List.map_append, List.take_append_drop] at this
theorem cuts {pl : List Int} {k : Nat} (h : k < pl.length) : ∃ A B : List D, cutD (pl.map D.int) none (some (k : Int)) = A ∧ cutD (pl.map D.int) (some ((k : Int) + 1)) none = B ∧ (er k pl).map .int = A ++ B ∧ (∀ n, (lo k pl n).map .int = A ++ [.int n] ++ B) ∧ A.length + B.length ≤ pl.length ∧ A.length + 1 + B.length ≤ pl.length :=
  ⟨_, _, cut_lo pl k, cut_hi h, by simp [er], fun n => by simp [lo], by simp; omega, by simp; omega⟩
theorem wp_eE {R : Nat → List D → Sto → Mo D} {G : List D} {ρ : Rho} {S : Sto} {a i r k : Nat} {pl : List Int} {Q : D → Sto → Prop} {E : Exn → Sto → Prop} (ha : ρ[a]?.join = some (.ref r)) (hi : ρ[i]?.join = some (.int (k : Int))) (h : S[r]? = some (.lst (pl.map .int))) (hk : k < pl.length) (hl : pl.length < 1000)
    (hQ : ∀ d S', NewL S S' d ((er k pl).map .int) → Q d S') : wp (ev R G (eE a i) false ρ S) Q E := by
  have lr := lt_of_get h
  obtain ⟨A, B, c1, c2, e1, -, le, -⟩ := cuts hk
  have g1 : lstOf (S ++ [Ob.lst A]) r = some (pl.map .int) := by rw [lst_app lr]; exact lst_lst h
  have m1 : mutOf (S ++ [Ob.lst A, Ob.lst B]) S.length = some A := by simp [mutOf]
  have m2 : mutOf (S ++ [Ob.lst A, Ob.lst B]) (S.length + 1) = some B := by simp [mutOf]
  have le' : A.length + B.length ≤ LIM := by unfold LIM; omega
  simp [eE, ha, hi, lst_lst h, c1, c2, g1, vfin, o_addR', m1, m2, le']
  refine hQ _ _ ⟨Ext.app _ _, _, rfl, by omega, ?_⟩
  rw [e1]
  exact get3
theorem wp_eL {R : Nat → List D → Sto → Mo D} {G : List D} {ρ : Rho} {S : Sto} {a i x r k : Nat} {pl : List Int} {n : Int} {Q : D → Sto → Prop} {E : Exn → Sto → Prop} (ha : ρ[a]?.join = some (.ref r)) (hi : ρ[i]?.join = some (.int (k : Int))) (hx : ρ[x]?.join = some (.int n)) (h : S[r]? = some (.lst (pl.map .int))) (hk : k < pl.length) (hl : pl.length < 1000)
    (hQ : ∀ d S', NewL S S' d ((lo k pl n).map .int) → Q d S') : wp (ev R G (eL a i x) false ρ S) Q E := by
  have lr := lt_of_get h
  obtain ⟨A, B, c1, c2, -, e1, -, le⟩ := cuts hk
  have m1 : mutOf (S ++ [Ob.lst A, Ob.lst [D.int n]]) S.length = some A := by simp [mutOf]
  have m2 : mutOf (S ++ [Ob.lst A, Ob.lst [D.int n]]) (S.length + 1) = some [.int n] := by simp [mutOf]
  have g1 : lstOf (S ++ [Ob.lst A, Ob.lst [D.int n], Ob.lst (A ++ [D.int n])]) r = some (pl.map .int) := by
    unfold lstOf
    rw [List.getElem?_append_left lr, h]
  have m3 : mutOf (S ++ [Ob.lst A, Ob.lst [D.int n], Ob.lst (A ++ [D.int n]), Ob.lst B]) (S.length + 1 + 1) = some (A ++ [.int n]) := by
    unfold mutOf
    rw [List.getElem?_append_right (by omega)]
    have : S.length + 1 + 1 - S.length = 2 := by omega
    rw [this]
    rfl
  have m4 : mutOf (S ++ [Ob.lst A, Ob.lst [D.int n], Ob.lst (A ++ [D.int n]), Ob.lst B]) (S.length + 1 + 1 + 1) = some B := by
    unfold mutOf
    rw [List.getElem?_append_right (by omega)]
    have : S.length + 1 + 1 + 1 - S.length = 3 := by omega
    rw [this]
    rfl
  have l1 : 1 ≤ LIM := by decide
  have le0 : A.length + 1 ≤ LIM := by unfold LIM; omega
  have le1 : A.length + 1 + B.length ≤ LIM := by unfold LIM; omega
  simp [eL, ha, hi, hx, lst_lst h, c1, c2, vfin, o_addR', m1, m2, l1, le0, g1, m3, m4, le1]
  refine hQ _ _ ⟨Ext.app _ _, S.length + 4, rfl, Nat.le_add_right _ 4, ?_⟩
  rw [e1, List.getElem?_append_right (by omega)]
  have : S.length + 4 - S.length = 4 := by omega
  rw [this]
  simp
theorem setR {r : Nat} {S S1 : Sto} (a : ExtR r S S1) (o : Ob) : ExtR r S (S1.set r o) := ⟨by simpa using a.len, fun j hj hr => by rw [List.getElem?_set_ne (fun z => hr z.symm)]; exact a.get j hj hr⟩
/-! candidates: the first two loops -/
structure CaI (S : Sto) (r : Nat) (fs : List (List Int)) (ρ : Rho) (S1 : Sto) : Prop where
  ex : ∃ (x y z t u : Option D) (xs : List D), ρ = [some (.ref r), some (.ref S.length), x, y, z, t, u] ∧ S1[S.length]? = some (.lst xs) ∧ LL S1 xs fs
  ext : Ext S S1
def b_cA : Sms := (.cons (.expr (.mth .append (.var 1) (.cons (eE 0 2) .nil))) .nil)
def b_cB : Sms := (.cons (.expr (.mth .append (.var 1) (.cons (eL 0 2 3) .nil))) .nil)
theorem cA {R : Nat → List D → Sto → Mo D} {G : List D} {S S1 : Sto} {r k : Nat} {pl : List Int} {ρ : Rho} {fs : List (List Int)} {Z : Fl → Rho → Sto → Prop} {E : Exn → Sto → Prop} (h : S[r]? = some (.lst (pl.map .int))) (hk : k < pl.length) (hl : pl.length < 1000) (hf : fs.length < 1000)
    (hi : ρ[2]?.join = some (.int (k : Int))) (I : CaI S r fs ρ S1) (hZ : ∀ S2, CaI S r (fs ++ [er k pl]) ρ S2 → Z .nx ρ S2) : wpS (exs R G 100 b_cA ρ S1) Z E := by
  obtain ⟨⟨x, y, z, t, u, xs, rfl, e, L⟩, hx⟩ := I
  simp [b_cA, lst_lst e, -wp_bin]
  refine wp_eE rfl hi (hx.at h) hk hl fun d S2 n => ?_
  obtain ⟨p1, p2, p3⟩ := push e L n
  have len : xs.length < LIM := by rw [LL.len L]; unfold LIM; omega
  simp [mut_lst p1, len, vfin]
  exact hZ _ ⟨⟨_, _, _, _, _, _, rfl, p2, p3⟩, (hx.trans n.ext).set (Nat.le_refl _) _⟩
theorem cB {R : Nat → List D → Sto → Mo D} {G : List D} {S S1 : Sto} {r k : Nat} {pl : List Int} {ρ : Rho} {fs : List (List Int)} {m : Int} {Z : Fl → Rho → Sto → Prop} {E : Exn → Sto → Prop} (h : S[r]? = some (.lst (pl.map .int))) (hk : k < pl.length) (hl : pl.length < 1000) (hf : fs.length < 100000)
    (hi : ρ[2]?.join = some (.int (k : Int))) (hx : ρ[3]?.join = some (.int m)) (I : CaI S r fs ρ S1) (hZ : ∀ S2, CaI S r (fs ++ [lo k pl m]) ρ S2 → ExtR S.length S1 S2 → Z .nx ρ S2) : wpS (exs R G 100 b_cB ρ S1) Z E := by
  obtain ⟨⟨x, y, z, t, u, xs, rfl, e, L⟩, hy⟩ := I
  simp [b_cB, lst_lst e, -wp_bin]
  refine wp_eL rfl hi hx (hy.at h) hk hl fun d S2 n => ?_
  obtain ⟨p1, p2, p3⟩ := push e L n
  have len : xs.length < LIM := by rw [LL.len L]; unfold LIM; omega
  simp [mut_lst p1, len, vfin]
  exact hZ _ ⟨⟨_, _, _, _, _, _, rfl, p2, p3⟩, (hy.trans n.ext).set (Nat.le_refl _) _⟩ (setR (n.ext.toR _) _)
def c_3 : Sms := .cons (.asg (.nm 4) .dn) b_candidates_4
end K21
set_option Elab.async false
set_option linter.all false
set_option maxRecDepth 100000
set_option maxHeartbeats 1000000
set_option exponentiation.threshold 8000
namespace K21
open PySem L2 Mx
structure CaR (S S' : Sto) (d : D) (pl : List Int) : Prop where
  ext : Ext S S'
  ex : ∃ (q : Nat) (xs : List D), d = .ref q ∧ S.length ≤ q ∧ S'[q]? = some (.lst xs) ∧ LL S' xs (ddp [] ((F1 pl pl.length ++ F2 pl pl.length).map trimZ))
/-- before turn i of a walk over a list that stays -/
structure CbI (S : Sto) (r q : Nat) (pl : List Int) (k i : Nat) (ρ : Rho) (S1 : Sto) : Prop where
  at' : ρ[2]?.join = some (.int (k : Int))
  c : CaI S r (F1 pl pl.length ++ F2 pl k ++ (lv pl k).take i) ρ S1
  l : S1[q]? = some (.lst ((lower (pl.getD k 0)).map .int))
  ne : S.length < q
theorem ddp_len : ∀ (xs acc : List (List Int)), (ddp acc xs).length ≤ acc.length + xs.length
  | [], acc => by simp [ddp]
  | x :: xs, acc => by
    rw [ddp]
    refine Nat.le_trans (ddp_len xs _) ?_
    split <;> simp <;> omega
theorem put_any {kvs : List (List Int × D)} {k : List Int} : (kvs.any fun p => decide (p.1 = k)) = decide (k ∈ kvs.map (·.1)) := by
  induction kvs with
  | nil => rfl
  | cons p r ih =>
    rw [List.any_cons, ih, ← Bool.decide_or]
    refine decide_eq_decide.mpr ?_
    simp only [List.map_cons, List.mem_cons]
    exact ⟨fun h => h.imp (fun e => e.symm) id, fun h => h.imp (fun e => e.symm) id⟩
theorem put_LL {S : Sto} {r : Nat} {k : List Int} (h : S[r]? = some (.lst (k.map .int))) : ∀ {kvs : List (List Int × D)}, LL S (kvs.map (·.2)) (kvs.map (·.1)) →
    LL S ((kvs.map fun p => if p.1 = k then (p.1, D.ref r) else p).map (·.2)) (kvs.map (·.1)) ∧ (kvs.map fun p => if p.1 = k then (p.1, D.ref r) else p).map (·.1) = kvs.map (·.1)
  | [], _ => ⟨.nil, rfl⟩
  | (a, b) :: kvs, L => by
    simp only [List.map_cons] at L ⊢
    cases L with
    | cons q L =>
      obtain ⟨i1, i2⟩ := put_LL h L
      by_cases e : a = k
      · subst e
        rw [if_pos rfl]
        exact ⟨.cons h i1, by rw [i2]⟩
      · rw [if_neg e]
        exact ⟨.cons q i1, by rw [i2]⟩
theorem put_spec {S : Sto} {r : Nat} {k : List Int} {kvs : List (List Int × D)} (h : S[r]? = some (.lst (k.map .int))) (L : LL S (kvs.map (·.2)) (kvs.map (·.1))) :
    (putQ kvs k (.ref r)).map (·.1) = (if k ∈ kvs.map (·.1) then kvs.map (·.1) else kvs.map (·.1) ++ [k]) ∧ LL S ((putQ kvs k (.ref r)).map (·.2)) ((putQ kvs k (.ref r)).map (·.1)) := by
  obtain ⟨i1, i2⟩ := put_LL h L
  unfold putQ
  rw [put_any]
  by_cases m : k ∈ kvs.map (·.1)
  · rw [if_pos (decide_eq_true m), if_pos m, i2]
    exact ⟨rfl, i1⟩
  · rw [if_neg (by simpa using m), if_neg m]
    simp only [List.map_append, List.map_cons, List.map_nil]
    exact ⟨trivial, LL.app L (.cons h .nil)⟩
theorem setQ_of {S : Sto} {e r : Nat} {v : D} {k : List Int} {kvs : List (List Int × D)} (h : S[e]? = some (.dct kvs)) (g : S[r]? = some (.lst (k.map .int))) (l : kvs.length < LIM) : setQ S (.ref e) (.ref r) v = some (S.set e (.dct (putQ kvs k v))) := by
  show ((dctOf S e).bind fun kvs => ((lstOf S r).bind intL).bind fun k => if kvs.length < LIM then some (S.set e (.dct (putQ kvs k v))) else none) = _
  have : dctOf S e = some kvs := by unfold dctOf; rw [h]
  rw [this, lst_lst g]
  simp only [Option.bind_some, intL_of, l, if_true]
structure CdI (S : Sto) (e : Nat) (xs : List D) (fs : List (List Int)) (i : Nat) (ρ : Rho) (S2 : Sto) : Prop where
  ex : ∃ (a x y t u : Option D) (kvs : List (List Int × D)), ρ = [a, some (.ref S.length), x, y, some (.ref e), t, u] ∧ S2[e]? = some (.dct kvs) ∧ kvs.map (·.1) = ddp [] ((fs.take i).map trimZ) ∧ LL S2 (kvs.map (·.2)) (kvs.map (·.1))
  f4 : S2[S.length]? = some (.lst xs)
  f5 : LL S2 xs fs
  ext : Ext S S2
  ne : S.length < e
theorem tail_spec {K : Nat} (hK : 1 ≤ K) {S S1 : Sto} {r : Nat} {pl : List Int} {ρ : Rho} (h : S[r]? = some (.lst (pl.map .int))) (hl : pl.length ≤ 20) (hp : ∀ x ∈ pl, (0 : Int) ≤ x ∧ x < 2 ^ 60) (I : CaI S r (F1 pl pl.length ++ F2 pl pl.length) ρ S1) :
    wpS (exs (Rn K) G 100 b_candidates_3 ρ S1) (lvQ (fun d S' => CaR S S' d pl)) nE := by
  obtain ⟨fs, hfs⟩ : ∃ fs, fs = F1 pl pl.length ++ F2 pl pl.length := ⟨_, rfl⟩
  have hb : ∀ l ∈ fs, l.length ≤ 20 := by
    intro l hm
    rw [hfs] at hm
    rcases List.mem_append.mp hm with hm | hm
    · obtain ⟨k, hk, rfl⟩ := List.mem_map.mp hm
      have := List.mem_range.mp hk
      simp [er]
      omega
    · obtain ⟨k, hk, hm⟩ := List.mem_flatMap.mp hm
      obtain ⟨x, hx, rfl⟩ := List.mem_map.mp hm
      have := List.mem_range.mp hk
      simp [lo]
      omega
  have hn : fs.length ≤ 2000 := by
    rw [hfs, List.length_append, F1_len]
    have := F2_len hp _ (Nat.le_refl _)
    omega
  rw [← hfs] at I
  have goal : ∀ S' d, (Ext S S' ∧ ∃ (q : Nat) (xs : List D), d = .ref q ∧ S.length ≤ q ∧ S'[q]? = some (.lst xs) ∧ LL S' xs (ddp [] (fs.map trimZ))) → CaR S S' d pl := fun S' d g => ⟨g.1, hfs ▸ g.2⟩
  clear hfs
  obtain ⟨⟨x, y, z, t, u, xs, rfl, e, L⟩, hx⟩ := I
  have le := lt_of_get e
  have e' : (S1 ++ [Ob.dct []])[S.length]? = some (.lst xs) := by rw [List.getElem?_append_left le]; exact e
  simp [b_candidates_3, b_candidates_4, lst_lst e']
  refine forL_live (l := xs) (CdI S S1.length xs fs) (fun i ρ S3 I => lst_lst I.f4) (fun i ρ S3 d hd I => ?_) (fun ρ S3 I => ?_) _ 0 _ _ (by simp [lenI, lst_lst e']) (Nat.zero_le _) ⟨⟨_, _, _, _, _, [], rfl, by simp, rfl, .nil⟩, e', L.ext (Ext.app _ _), hx.trans (Ext.app _ _), le⟩
  · obtain ⟨⟨a, x, y, t, u, kvs, rfl, e1, e2, e3⟩, e4, e5, e6, e7⟩ := I
    obtain ⟨p, l, rfl, hfi, hpl⟩ := e5.get hd
    have lb := hb l (List.mem_of_getElem? hfi)
    refine ⟨_, rfl, ?_⟩
    simp
    refine wp_mono (trim_spec (K := K) (G := G) (w := 100) trimF hK (x := .ref p) (ns := l) (S := S3) (by simp [seqOf, lst_lst hpl]) (by simp [lst_lst hpl]) (by omega)) (fun d S4 n => ?_) (fun _ _ z => z.elim)
    obtain ⟨rfl, rfl⟩ := n
    have ex : Ext S3 (S3 ++ [Ob.lst ((trimZ l).map D.int)]) := Ext.app _ _
    have g1 := ex.at e1
    have g2 : (S3 ++ [Ob.lst ((trimZ l).map D.int)])[S3.length]? = some (.lst ((trimZ l).map .int)) := by simp
    have kl : kvs.length < LIM := by
      have a1 := ddp_len ((fs.take i).map trimZ) []
      rw [← e2] at a1
      simp at a1
      unfold LIM
      omega
    have sq : setQ (S3 ++ [Ob.lst ((trimZ l).map D.int)]) (.ref S1.length) (.ref S3.length) (.ref S3.length) = some ((S3 ++ [Ob.lst ((trimZ l).map D.int)]).set S1.length (.dct (putQ kvs (trimZ l) (.ref S3.length)))) := by
      exact setQ_of g1 g2 kl
    simp [vfin, sq]
    obtain ⟨q1, q2⟩ := put_spec g2 (LL.ext e3 ex)
    have lt1 := lt_of_get g1
    have e4' : ((S3 ++ [Ob.lst ((trimZ l).map D.int)]).set S1.length (.dct (putQ kvs (trimZ l) (.ref S3.length))))[S.length]? = some (.lst xs) := by
      rw [List.getElem?_set_ne (by omega)]
      exact ex.at e4
    refine ⟨⟨_, _, _, _, _, putQ kvs (trimZ l) (.ref S3.length), rfl, by rw [List.getElem?_set_self lt1], ?_, LL.putD q2 g1 _⟩, e4', LL.putD (LL.ext e5 ex) g1 _, (e6.trans ex).set (Nat.le_of_lt e7) _, e7⟩
    rw [q1, List.take_succ, hfi, Option.toList_some, List.map_append, List.map_cons, List.map_nil, ddp_one, ← e2]
  · obtain ⟨⟨a, x, y, t, u, kvs, rfl, e1, e2, e3⟩, e4, e5, e6, e7⟩ := I
    simp [b_candidates_5, dctOf, e1]
    have ex : Ext S3 (S3 ++ [Ob.lst (kvs.map (·.2))]) := Ext.app _ _
    have tk : fs.take xs.length = fs := List.take_of_length_le (by rw [LL.len L]; exact Nat.le_refl _)
    rw [tk] at e2
    refine goal _ _ ⟨e6.trans ex, _, _, rfl, e6.len, List.getElem?_concat_length, ?_⟩
    rw [← e2]
    exact LL.ext e3 ex
theorem cand_spec {K : Nat} (hK : 2 ≤ K) {S : Sto} {r : Nat} {pl : List Int} (h : S[r]? = some (.lst (pl.map .int))) (hl : pl.length ≤ 20) (hp : ∀ x ∈ pl, (0 : Int) ≤ x ∧ x < 2 ^ 60) : wp (Rn K 1 [.ref r] S) (fun d S' => CaR S S' d pl) nE := by
  obtain ⟨K, rfl⟩ := ge1 (Nat.le_trans (by decide : 1 ≤ 2) hK)
  refine wp_run (F := rw_candidates.fn) rfl rfl ?_
  show wpS (exs _ _ _ b_candidates _ _) _ _
  have l0 : 0 ≤ LIM := by decide
  have lr := lt_of_get h
  have hg : lstOf (S ++ [Ob.lst []]) r = some (pl.map .int) := by rw [lst_app lr]; exact lst_lst h
  simp [b_candidates, b_candidates_1, rw_candidates, Rw.fn, enter, l0, hg, -wp_bin]
  refine ⟨okR_of (by omega) (by omega), ?_⟩
  refine forL_items (fun k ρ S1 => CaI S r (F1 pl k) ρ S1) (fun k ρ S1 d hd q => ?_) (fun ρ S1 q => ?_) _ 0 _ _ (by omega) (Nat.zero_le _) ⟨⟨_, _, _, _, _, [], rfl, by simp, .nil⟩, Ext.app _ _⟩
  · obtain ⟨hk, rfl⟩ := rng_get hd
    refine ⟨_, rfl, ?_⟩
    have I : CaI S r (F1 pl k) (ρ.set 2 (some (.int (0 + (k : Int))))) S1 := by
      obtain ⟨⟨x, y, z, t, u, xs, rfl, e, L⟩, hx⟩ := q
      exact ⟨⟨_, _, _, _, _, xs, rfl, e, L⟩, hx⟩
    refine cA h hk (by omega) (by rw [F1_len]; omega) ?_ I fun S2 q2 => ?_
    · obtain ⟨⟨x, y, z, t, u, xs, rfl, e, L⟩, hx⟩ := q
      simp
    · show CaI _ _ _ _ _
      rw [F1_s]
      exact q2
  · rw [rng_len] at q
    have q' : CaI S r (F1 pl pl.length ++ F2 pl 0) ρ S1 := by simpa [F2] using q
    clear q
    obtain ⟨⟨x, y, z, t, u, xs, rfl, e, L⟩, hx⟩ := q'
    simp [b_candidates_2, lst_lst (hx.at h), -wp_bin]
    refine ⟨okR_of (by omega) (by omega), ?_⟩
    refine forL_items (fun k ρ S1 => CaI S r (F1 pl pl.length ++ F2 pl k) ρ S1) (fun k ρ S1 d hd q => ?_) (fun ρ S1 q => ?_) _ 0 _ _ (by omega) (Nat.zero_le _) ⟨⟨_, _, _, _, _, _, rfl, e, L⟩, hx⟩
    · obtain ⟨hk, rfl⟩ := rng_get hd
      refine ⟨_, rfl, ?_⟩
      clear e L hx
      obtain ⟨⟨x, y, z, t, u, xs, rfl, e, L⟩, hx⟩ := q
      obtain ⟨v, pk⟩ : ∃ v, pl[k]? = some v := ⟨_, List.getElem?_eq_getElem hk⟩
      have pm : v ∈ pl := List.mem_of_getElem? pk
      have pv : pl.getD k 0 = v := by rw [List.getD_eq_getElem?_getD, pk, Option.getD_some]
      have ix : atI (pl.map D.int) (k : Int) = some (.int v) := atI_of (by rw [List.getElem?_map, pk]; rfl)
      have lvk : lv pl k = (lower v).map (lo k pl) := by unfold lv; rw [pv]
      have len := lower_len (hp v pm).1 (hp v pm).2
      have len2 := F2_len hp k (by omega)
      simp [lst_lst (hx.at h), ix, -wp_bin]
      refine wp_mono (lower_spec (K := K) (by omega) (hp v pm).1 (hp v pm).2) (fun d S2 n => ?_) (fun _ _ z => z.elim)
      obtain ⟨nx, q, rfl, hq, hl2⟩ := n
      simp [vfin, lst_lst hl2, -wp_bin]
      have sq : S.length < q := by have := lt_of_get e; omega
      refine forL_live (l := (lower v).map .int) (CbI S r q pl k) (fun i ρ S3 I => lst_lst (pv ▸ I.l)) (fun i ρ S3 d hd I => ?_) (fun ρ S3 I => ?_) _ 0 _ _ (by simp [lenI, lst_lst hl2]) (Nat.zero_le _) ⟨rfl, ⟨⟨_, _, _, _, _, xs, rfl, nx.at e, by simpa using L.ext nx⟩, hx.trans nx⟩, pv ▸ hl2, sq⟩
      · clear e L hx nx hl2
        obtain ⟨i1, ⟨⟨x, y, z, t, u, xs, rfl, e, L⟩, hx⟩, hl2, -⟩ := I
        rw [List.getElem?_map] at hd
        obtain ⟨m, hm, rfl⟩ := Option.map_eq_some_iff.mp hd
        refine ⟨_, rfl, cB (fs := F1 pl pl.length ++ F2 pl k ++ (lv pl k).take i) h hk (by omega) ?_ i1 rfl ⟨⟨_, _, _, _, _, xs, rfl, e, L⟩, hx⟩ fun S4 q4 r4 => ?_⟩
        · have : (lv pl k).length = (lower v).length := by rw [lvk, List.length_map]
          simp only [List.length_append, F1_len, List.length_take]
          omega
        · refine ⟨i1, ?_, (r4.get q (lt_of_get hl2) (by omega)).trans hl2, sq⟩
          have : (lv pl k).take (i + 1) = (lv pl k).take i ++ [lo k pl m] := by
            rw [List.take_succ, lvk, List.getElem?_map, hm]
            rfl
          rw [this, ← List.append_assoc]
          exact q4
      · have t := I.c
        rw [List.length_map] at t
        have : (lv pl k).take (lower v).length = lv pl k := List.take_of_length_le (by rw [lvk, List.length_map]; exact Nat.le_refl _)
        rw [this, List.append_assoc, ← F2_s] at t
        exact t
    · rw [rng_len] at q
      exact tail_spec (by omega) h hl hp q
end K21
set_option Elab.async false
set_option linter.all false
set_option maxRecDepth 100000
set_option maxHeartbeats 1000000
set_option exponentiation.threshold 8000
namespace K21
open PySem L2 Mx
abbrev PQ : Fl → Rho → Sto → Prop := lvQ fun d _ => d = .bl true
/-! the numbers -/
theorem dn_less : ∀ (j : Nat) (n x : Int), x ∈ dn j n → x < n
  | 0, n, x, h => by simp [dn] at h; omega
  | j + 1, n, x, h => by
    have : (0 : Int) < 2 ^ (j + 1) := Int.pow_pos (by decide)
    rw [dn] at h
    rcases List.mem_cons.mp h with h | h
    · omega
    · exact dn_less j n x h
theorem lower_less {n x : Int} (h0 : 0 ≤ n) (h : x ∈ lower n) : x < n := by
  unfold lower at h
  split at h
  · cases h
  · rcases List.mem_cons.mp h with h | h
    · omega
    · exact dn_less _ _ _ h
theorem zF_suf : ∀ l : List Int, ∃ a, l = a ++ zF l
  | [] => ⟨[], rfl⟩
  | x :: l => by
    rw [zF]
    split
    · obtain ⟨a, h⟩ := zF_suf l
      exact ⟨x :: a, by rw [List.cons_append, ← h]⟩
    · exact ⟨[], rfl⟩
theorem trim_pre (l : List Int) : ∃ a, l = trimZ l ++ a := by
  obtain ⟨a, h⟩ := zF_suf l.reverse
  refine ⟨a.reverse, ?_⟩
  unfold trimZ
  rw [← List.reverse_append, ← h, List.reverse_reverse]
theorem trim_mem {l : List Int} {x : Int} (h : x ∈ trimZ l) : x ∈ l := by
  obtain ⟨a, e⟩ := trim_pre l
  rw [e]
  exact List.mem_append_left _ h
/-- smaller than the tape -/
def Sm1 (t l : List Int) : Prop := l.length ≤ t.length ∧ (l.length = t.length → l.sum < t.sum)
theorem sm_all {t : List Int} (hp : ∀ x ∈ t, (0 : Int) ≤ x ∧ x < 2 ^ 60) {l : List Int} (h : l ∈ ddp [] ((F1 t t.length ++ F2 t t.length).map trimZ)) : Sm1 t l := by
  rcases ddp_mem _ _ _ h with h | h
  · cases h
  obtain ⟨f, hf, rfl⟩ := List.mem_map.mp h
  obtain ⟨a, e⟩ := trim_pre f
  have le := congrArg List.length e
  rw [List.length_append] at le
  rcases List.mem_append.mp hf with hm | hm
  · obtain ⟨k, hk, rfl⟩ := List.mem_map.mp hm
    have := List.mem_range.mp hk
    have : (er k t).length < t.length := by simp [er]; omega
    exact ⟨by omega, fun z => by omega⟩
  · obtain ⟨k, hk, hm⟩ := List.mem_flatMap.mp hm
    have hk := List.mem_range.mp hk
    obtain ⟨x, hx, rfl⟩ := List.mem_map.mp hm
    have ln : (lo k t x).length = t.length := by simp [lo]; omega
    obtain ⟨v, pk⟩ : ∃ v, t[k]? = some v := ⟨_, List.getElem?_eq_getElem hk⟩
    have pm : v ∈ t := List.mem_of_getElem? pk
    have pv : t.getD k 0 = v := by rw [List.getD_eq_getElem?_getD, pk, Option.getD_some]
    rw [pv] at hx
    have lx := lower_less (hp v pm).1 hx
    refine ⟨by omega, fun z => ?_⟩
    have an : a = [] := List.eq_nil_of_length_eq_zero (by omega)
    subst an
    rw [List.append_nil] at e
    rw [← e]
    have tt : t = t.take k ++ v :: t.drop (k + 1) := by
      have h1 := List.take_append_drop k t
      have h2 : t.drop k = v :: t.drop (k + 1) := by
        rw [List.drop_eq_getElem_cons hk]
        congr 1
        have := List.getElem?_eq_getElem hk
        rw [pk] at this
        exact (Option.some.inj this).symm
      rw [h2] at h1
      exact h1.symm
    have : t.sum = (t.take k).sum + (v + (t.drop (k + 1)).sum) := by
      conv => lhs; rw [tt]
      rw [List.sum_append, List.sum_cons]
    rw [this]
    simp only [lo, List.sum_append, List.sum_cons, List.sum_nil]
    omega
/-! the law's loops -/
structure LaI (S : Sto) (q p : Nat) (fs : List (List Int)) (ρ : Rho) (S1 : Sto) : Prop where
  ex : ∃ (a b x l o n m : Option D) (xs : List D), ρ = [a, b, x, some (.ref q), some (.ref p), some (.ref S.length), l, o, n, m] ∧ S1[S.length]? = some (.lst xs) ∧ LL S1 xs fs
  ext : Ext S S1
def b_lA : Sms := (.cons (.expr (.mth .append (.var 5) (.cons (.cal 5 (.cons (eE 3 2) .nil)) .nil))) .nil)
def b_lB : Sms := (.cons (.expr (.mth .append (.var 5) (.cons (.cal 5 (.cons (eL 3 2 6) .nil)) .nil))) .nil)
theorem new_new {S1 S2 S3 : Sto} {d d' : D} {l l' : List D} (n : NewL S1 S2 d l) (m : NewL S2 S3 d' l') : NewL S1 S3 d' l' := by
  obtain ⟨r, h1, h2, h3⟩ := m.ex
  exact ⟨n.ext.trans m.ext, r, h1, Nat.le_trans n.ext.len h2, h3⟩
theorem er_len (k : Nat) (t : List Int) : (er k t).length ≤ t.length := by simp [er]; omega
theorem lo_len {k : Nat} {t : List Int} (h : k < t.length) (x : Int) : (lo k t x).length = t.length := by simp [lo]; omega
theorem lA {K : Nat} (hK : 1 ≤ K) {S S1 : Sto} {q p k : Nat} {t : List Int} {ρ : Rho} {fs : List (List Int)} {Z : Fl → Rho → Sto → Prop} (h : S[q]? = some (.lst (t.map .int))) (hk : k < t.length) (hl : t.length ≤ 20) (hf : fs.length < 1000)
    (hi : ρ[2]?.join = some (.int (k : Int))) (I : LaI S q p fs ρ S1) (hZ : ∀ S2, LaI S q p (fs ++ [trimZ (er k t)]) ρ S2 → Z .nx ρ S2) : wpS (exs (Rn K) G 100 b_lA ρ S1) Z nE := by
  obtain ⟨⟨a, b, x, l, o, n', m, xs, rfl, e, L⟩, hx⟩ := I
  simp [b_lA, lst_lst e, -wp_bin]
  refine wp_eE rfl hi (hx.at h) hk (by omega) fun d S2 n => ?_
  obtain ⟨r, rfl, hr, hq⟩ := n.ex
  have := er_len k t
  simp [-wp_bin]
  refine wp_mono (cut_spec hK hq (by omega)) (fun d S3 n3 => ?_) (fun _ _ z => z.elim)
  obtain ⟨p1, p2, p3⟩ := push e L (new_new n n3)
  have len : xs.length < LIM := by rw [LL.len L]; unfold LIM; omega
  obtain ⟨r3, rfl, hr3, hq3⟩ := n3.ex
  simp [mut_lst p1, len, vfin]
  exact hZ _ ⟨⟨_, _, _, _, _, _, _, _, rfl, p2, p3⟩, (hx.trans (new_new n n3).ext).set (Nat.le_refl _) _⟩
theorem lB {K : Nat} (hK : 1 ≤ K) {S S1 : Sto} {q p k : Nat} {t : List Int} {ρ : Rho} {v : Int} {fs : List (List Int)} {Z : Fl → Rho → Sto → Prop} (h : S[q]? = some (.lst (t.map .int))) (hk : k < t.length) (hl : t.length ≤ 20) (hf : fs.length < 100000)
    (hi : ρ[2]?.join = some (.int (k : Int))) (hv : ρ[6]?.join = some (.int v)) (I : LaI S q p fs ρ S1) (hZ : ∀ S2, LaI S q p (fs ++ [trimZ (lo k t v)]) ρ S2 → ExtR S.length S1 S2 → Z .nx ρ S2) : wpS (exs (Rn K) G 100 b_lB ρ S1) Z nE := by
  obtain ⟨⟨a, b, x, l, o, n', m, xs, rfl, e, L⟩, hx⟩ := I
  simp [b_lB, lst_lst e, -wp_bin]
  refine wp_eL rfl hi hv (hx.at h) hk (by omega) fun d S2 n => ?_
  obtain ⟨r, rfl, hr, hq⟩ := n.ex
  have := lo_len hk v
  simp [-wp_bin]
  refine wp_mono (cut_spec hK hq (by omega)) (fun d S3 n3 => ?_) (fun _ _ z => z.elim)
  obtain ⟨p1, p2, p3⟩ := push e L (new_new n n3)
  have len : xs.length < LIM := by rw [LL.len L]; unfold LIM; omega
  obtain ⟨r3, rfl, hr3, hq3⟩ := n3.ex
  simp [mut_lst p1, len, vfin]
  exact hZ _ ⟨⟨_, _, _, _, _, _, _, _, rfl, p2, p3⟩, (hx.trans (new_new n n3).ext).set (Nat.le_refl _) _⟩ (setR ((new_new n n3).ext.toR _) _)
end K21
set_option Elab.async false
set_option linter.all false
set_option maxRecDepth 100000
set_option maxHeartbeats 1000000
set_option exponentiation.threshold 8000
namespace K21
open PySem L2 Mx
/-- the tape and its copy -/
structure Tp (S : Sto) (q p : Nat) (t : List Int) : Prop where
  q : S[q]? = some (.lst (t.map .int))
  p : S[p]? = some (.lst (t.map .int))
  len : t.length ≤ 20
  all : ∀ x ∈ t, (0 : Int) ≤ x ∧ x < 2 ^ 60
def Fa (t : List Int) : List (List Int) := (F1 t t.length ++ F2 t t.length).map trimZ
theorem Fa_len {t : List Int} (h : ∀ x ∈ t, (0 : Int) ≤ x ∧ x < 2 ^ 60) (l : t.length ≤ 20) : (Fa t).length ≤ 2000 := by
  have := F2_len h _ (Nat.le_refl _)
  simp only [Fa, List.length_map, List.length_append, F1_len]
  omega
/-! last: each is smaller -/
theorem law_12 {K : Nat} {S : Sto} {q p u : Nat} {t : List Int} {xs : List D} {ls : List (List Int)} {ρ : Rho} {a b c d e f g h : Option D} (T : Tp S q p t) (hu : S[u]? = some (.lst xs)) (L : LL S xs ls) (hl : ls.length < 10000) (hs : ∀ l ∈ ls, Sm1 t l) (hρ : ρ = [a, b, c, some (.ref q), d, e, f, g, h, some (.ref u)]) :
    wpS (exs (Rn K) G 100 b_law_12 ρ S) PQ nE := by
  subst hρ
  simp [b_law_12, lst_lst hu]
  refine forL_live (l := xs) (fun i ρ S1 => S1 = S ∧ ∃ y, ρ = [a, b, c, some (.ref q), d, e, f, g, y, some (.ref u)]) (fun i ρ S1 I => by rw [I.1]; exact lst_lst hu) (fun i ρ S1 d' hd I => ?_) (fun ρ S1 I => ?_) _ 0 _ _ (by simp [lenI, lst_lst hu]) (Nat.zero_le _) ⟨rfl, _, rfl⟩
  · obtain ⟨rfl, y, rfl⟩ := I
    obtain ⟨r, l, rfl, hi, hr⟩ := L.get hd
    obtain ⟨s1, s2⟩ := hs l (List.mem_of_getElem? hi)
    refine ⟨_, rfl, ?_⟩
    have n1 : decide (t.length < l.length) = false := decide_eq_false (by omega)
    simp [lst_lst hr, lst_lst T.q, n1, intL_of]
    refine cas_beq (fun z => ?_) (fun _ => ?_)
    · have n2 : decide (t.sum ≤ l.sum) = false := decide_eq_false (by have := s2 (by exact_mod_cast z); omega)
      simp [lst_lst hr, lst_lst T.q, n2, intL_of]
    · simp
  · obtain ⟨rfl, y, rfl⟩ := I
    simp [b_law_13]
theorem Tp.ext {S S' : Sto} {q p : Nat} {t : List Int} (h : Tp S q p t) (e : Ext S S') : Tp S' q p t := ⟨e.at h.q, e.at h.p, h.len, h.all⟩
/-! told -/
theorem law_10 {K : Nat} (hK : 2 ≤ K) {S : Sto} {q p o : Nat} {t : List Int} {xs : List D} {ρ : Rho} {a b c e f g h : Option D} (T : Tp S q p t) (ho : S[o]? = some (.lst xs)) (L : LL S xs (ddp [] (Fa t))) (hρ : ρ = [a, b, c, some (.ref q), some (.ref p), e, f, some (.ref o), g, h]) :
    wpS (exs (Rn K) G 100 b_law_10 ρ S) PQ nE := by
  subst hρ
  simp [b_law_10]
  refine wp_mono (cand_spec hK T.q T.len T.all) (fun d S2 n => ?_) (fun _ _ z => z.elim)
  obtain ⟨u, ys, rfl, hu, h2, L2⟩ := n.ex
  have T2 := T.ext n.ext
  have c1 : eqC S2 (.ref u) (.ref o) = some true := by
    rw [eqC_LL (lst_lst h2) (lst_lst (n.ext.at ho)) L2 (LL.ext L n.ext)]
    exact congrArg some (decide_eq_true rfl)
  have c2 : eqC S2 (.ref q) (.ref p) = some true := by
    rw [eqC_of (lst_lst T2.q) (lst_lst T2.p)]
    exact congrArg some (decide_eq_true rfl)
  simp [vfin, b_law_11, isTy, lst_lst h2, c1, c2]
  exact law_12 T2 h2 L2 (by
    have := ddp_len (Fa t) []
    have := Fa_len T.all T.len
    show (ddp [] (Fa t)).length < 10000
    simp at *
    omega) (fun l hl => sm_all T.all hl) rfl
/-! once -/
structure OnI (S : Sto) (o : Nat) (fs : List (List Int)) (b c d e f : Option D) (i : Nat) (ρ : Rho) (S1 : Sto) : Prop where
  ex : ∃ (z h : Option D) (a : Option D) (ys : List D), ρ = [a, b, c, d, e, some (.ref o), f, some (.ref S.length), z, h] ∧ S1[S.length]? = some (.lst ys) ∧ LL S1 ys (ddp [] (fs.take i))
  ext : Ext S S1
theorem law_8 {K : Nat} (hK : 2 ≤ K) {S : Sto} {q p o : Nat} {t : List Int} {xs : List D} {ρ : Rho} {a b c e f g h : Option D} (T : Tp S q p t) (ho : S[o]? = some (.lst xs)) (L : LL S xs (Fa t)) (hρ : ρ = [a, b, c, some (.ref q), some (.ref p), some (.ref o), f, e, g, h]) :
    wpS (exs (Rn K) G 100 b_law_8 ρ S) PQ nE := by
  subst hρ
  have l0 : 0 ≤ LIM := by decide
  have lo := lt_of_get ho
  have o1 : (S ++ [Ob.lst []])[o]? = some (.lst xs) := by rw [List.getElem?_append_left lo]; exact ho
  obtain ⟨fs, hfs⟩ : ∃ fs, fs = Fa t := ⟨_, rfl⟩
  have hn : fs.length ≤ 2000 := by rw [hfs]; exact Fa_len T.all T.len
  rw [← hfs] at L
  simp [b_law_8, b_law_9, l0, lst_lst o1]
  refine forL_live (l := xs) (OnI S o fs b c (some (.ref q)) (some (.ref p)) f) (fun i ρ S1 I => lst_lst (I.ext.at ho)) (fun i ρ S1 d' hd I => ?_) (fun ρ S1 I => ?_) _ 0 _ _ (by simp [lenI, lst_lst o1]) (Nat.zero_le _) ⟨⟨_, _, _, [], rfl, by simp, .nil⟩, Ext.app _ _⟩
  · obtain ⟨⟨z, h', a', ys, rfl, i1, i2⟩, i5⟩ := I
    obtain ⟨r, l, rfl, hi, hr0⟩ := L.get hd
    have hr := i5.at hr0
    have rl := lt_of_get hr0
    have tk : fs.take (i + 1) = fs.take i ++ [l] := by
      rw [List.take_succ, hi]
      rfl
    have yl : ys.length < LIM := by
      rw [LL.len i2]
      have := ddp_len (fs.take i) []
      simp at this
      unfold LIM
      omega
    refine ⟨_, rfl, ?_⟩
    have is := isin_LL (lst_lst hr) i2
    simp [lst_lst i1, is]
    refine cas_dec (fun m => ?_) (fun m => ?_)
    · simp
      exact ⟨⟨_, _, _, ys, rfl, i1, by rw [tk, ddp_one, if_pos m]; exact i2⟩, i5⟩
    · have p2 := LL.put i2 i1 (.lst (ys ++ [.ref r]))
      have r2 : (S1.set S.length (.lst (ys ++ [.ref r])))[r]? = some (.lst (l.map .int)) := by
        rw [List.getElem?_set_ne (by omega)]
        exact hr
      have lt1 := lt_of_get i1
      simp [mut_lst i1, lst_lst i1, yl]
      refine ⟨⟨_, _, _, ys ++ [.ref r], rfl, by rw [List.getElem?_set_self lt1], ?_⟩, i5.set (Nat.le_refl _) _⟩
      rw [tk, ddp_one, if_neg m]
      exact LL.app p2 (.cons r2 .nil)
  · obtain ⟨⟨z, h', a', ys, rfl, i1, i2⟩, i5⟩ := I
    have tk : fs.take xs.length = fs := List.take_of_length_le (by rw [LL.len L]; exact Nat.le_refl _)
    rw [tk, hfs] at i2
    exact law_10 hK (T.ext i5) i1 i2 rfl
/-! due -/
structure LbI (S : Sto) (q p j : Nat) (t : List Int) (k i : Nat) (ρ : Rho) (S1 : Sto) : Prop where
  at' : ρ[2]?.join = some (.int (k : Int))
  c : LaI S q p (((F1 t t.length ++ F2 t k) ++ (lv t k).take i).map trimZ) ρ S1
  l : S1[j]? = some (.lst ((lower (t.getD k 0)).map .int))
  ne : S.length < j
theorem law_7 {K : Nat} (hK : 2 ≤ K) {S S1 : Sto} {q p : Nat} {t : List Int} {ρ : Rho} (T : Tp S q p t) (I : LaI S q p ((F1 t t.length).map trimZ) ρ S1) :
    wpS (exs (Rn K) G 100 b_law_7 ρ S1) PQ nE := by
  have hl := T.len
  obtain ⟨⟨a, b, x, l, o, n, m, xs, rfl, e, L⟩, hx⟩ := I
  simp [b_law_7, lst_lst (hx.at T.q), -wp_bin]
  refine ⟨okR_of (by omega) (by omega), ?_⟩
  refine forL_items (fun k ρ S1 => LaI S q p ((F1 t t.length ++ F2 t k).map trimZ) ρ S1) (fun k ρ S1 d hd I => ?_) (fun ρ S1 I => ?_) _ 0 _ _ (by omega) (Nat.zero_le _) ⟨⟨_, _, _, _, _, _, _, xs, rfl, e, by simpa [F2] using L⟩, hx⟩
  · obtain ⟨hk, rfl⟩ := rng_get hd
    refine ⟨_, rfl, ?_⟩
    clear e L hx
    obtain ⟨⟨a, b, x, l, o, n, m, xs, rfl, e, L⟩, hx⟩ := I
    obtain ⟨v, pk⟩ : ∃ v, t[k]? = some v := ⟨_, List.getElem?_eq_getElem hk⟩
    have pm : v ∈ t := List.mem_of_getElem? pk
    have pv : t.getD k 0 = v := by rw [List.getD_eq_getElem?_getD, pk, Option.getD_some]
    have ix : atI (t.map D.int) (k : Int) = some (.int v) := atI_of (by rw [List.getElem?_map, pk]; rfl)
    have lvk : lv t k = (lower v).map (lo k t) := by unfold lv; rw [pv]
    have len := lower_len (T.all v pm).1 (T.all v pm).2
    have len2 := F2_len T.all k (by omega)
    simp [lst_lst (hx.at T.q), ix, -wp_bin]
    refine wp_mono (less_spec (K := K) (by omega) (T.all v pm).1 (T.all v pm).2) (fun d S2 n => ?_) (fun _ _ z => z.elim)
    obtain ⟨nx, j, rfl, hq, hl2⟩ := n
    simp [vfin, lst_lst hl2, -wp_bin]
    have sq : S.length < j := by have := lt_of_get e; omega
    refine forL_live (l := (lower v).map .int) (LbI S q p j t k) (fun i ρ S3 I => lst_lst (pv ▸ I.l)) (fun i ρ S3 d hd I => ?_) (fun ρ S3 I => ?_) _ 0 _ _ (by simp [lenI, lst_lst hl2]) (Nat.zero_le _) ⟨rfl, ⟨⟨_, _, _, _, _, _, _, xs, rfl, nx.at e, by simpa using L.ext nx⟩, hx.trans nx⟩, pv ▸ hl2, sq⟩
    · clear e L hx nx hl2
      obtain ⟨i1, ⟨⟨a, b, x, l, o, n, m, xs, rfl, e, L⟩, hx⟩, hl2, -⟩ := I
      rw [List.getElem?_map] at hd
      obtain ⟨m, hm, rfl⟩ := Option.map_eq_some_iff.mp hd
      refine ⟨_, rfl, lB (v := m) (fs := ((F1 t t.length ++ F2 t k) ++ (lv t k).take i).map trimZ) (by omega) T.q hk T.len ?_ i1 rfl ⟨⟨_, _, _, _, _, _, _, xs, rfl, e, L⟩, hx⟩ fun S4 q4 r4 => ?_⟩
      · have : (lv t k).length = (lower v).length := by rw [lvk, List.length_map]
        simp only [List.length_append, F1_len, List.length_take, List.length_map]
        omega
      · refine ⟨i1, ?_, (r4.get j (lt_of_get hl2) (by omega)).trans hl2, sq⟩
        have : (lv t k).take (i + 1) = (lv t k).take i ++ [lo k t m] := by
          rw [List.take_succ, lvk, List.getElem?_map, hm]
          rfl
        rw [this, ← List.append_assoc, List.map_append]
        exact q4
    · have c := I.c
      rw [List.length_map] at c
      have : (lv t k).take (lower v).length = lv t k := List.take_of_length_le (by rw [lvk, List.length_map]; exact Nat.le_refl _)
      rw [this, List.append_assoc, ← F2_s] at c
      exact c
  · rw [rng_len] at I
    obtain ⟨⟨a, b, x, l, o, n, m, xs, rfl, e, L⟩, hx⟩ := I
    exact law_8 hK (T.ext hx) e L rfl
theorem law_5 {K : Nat} (hK : 2 ≤ K) {S : Sto} {q p : Nat} {t : List Int} {ρ : Rho} {a b c d e f g h : Option D} (T : Tp S q p t) (hρ : ρ = [a, b, c, some (.ref q), some (.ref p), d, e, f, g, h]) :
    wpS (exs (Rn K) G 100 b_law_5 ρ S) PQ nE := by
  subst hρ
  have hl := T.len
  have l0 : 0 ≤ LIM := by decide
  have T1 := T.ext (Ext.app S [Ob.lst []])
  simp [b_law_5, b_law_6, l0, lst_lst T1.q, -wp_bin]
  refine ⟨okR_of (by omega) (by omega), ?_⟩
  refine forL_items (fun k ρ S1 => LaI S q p ((F1 t k).map trimZ) ρ S1) (fun k ρ S1 d hd I => ?_) (fun ρ S1 I => ?_) _ 0 _ _ (by omega) (Nat.zero_le _) ⟨⟨_, _, _, _, _, _, _, [], rfl, by simp, .nil⟩, Ext.app _ _⟩
  · obtain ⟨hk, rfl⟩ := rng_get hd
    refine ⟨_, rfl, ?_⟩
    obtain ⟨⟨a, b, x, l, o, n, m, xs, rfl, e, L⟩, hx⟩ := I
    refine lA (by omega) T.q hk T.len (fs := (F1 t k).map trimZ) (by rw [List.length_map, F1_len]; omega) ?_ ⟨⟨_, _, _, _, _, _, _, xs, rfl, e, L⟩, hx⟩ fun S2 q2 => ?_
    · simp
    · show LaI _ _ _ _ _ _
      rw [F1_s, List.map_append]
      exact q2
  · rw [rng_len] at I
    exact law_7 hK T I
end K21
set_option Elab.async false
set_option linter.all false
set_option maxRecDepth 100000
set_option maxHeartbeats 1000000
set_option exponentiation.threshold 8000
namespace K21
open PySem L2 Mx
def In (x : Int) : Prop := 0 ≤ x ∧ x < 2 ^ 60
theorem ints_of {P : Int → Prop} {l : List D} (h : ∀ y ∈ l, ∃ x, y = .int x ∧ P x) : ∃ ws : List Int, l = ws.map .int ∧ ∀ x ∈ ws, P x := by
  induction l with
  | nil => exact ⟨[], rfl, by simp⟩
  | cons y l ih =>
    obtain ⟨ws, rfl, hw⟩ := ih fun y hy => h y (List.mem_cons_of_mem _ hy)
    obtain ⟨x, rfl, hx⟩ := h y (by simp)
    exact ⟨x :: ws, rfl, fun z hz => (List.mem_cons.mp hz).elim (fun e => e ▸ hx) (hw z)⟩
theorem opt_mut {S : Sto} {q : Nat} {l : List D} {P : List D → Prop} (h : S[q]? = some (.lst l)) : opt (mutOf S q) P = P l := by rw [mut_lst h]; exact opt_some
theorem law_3 {K : Nat} (hK : 2 ≤ K) {S : Sto} {q : Nat} {t : List Int} {ρ : Rho} {a b c e d f g h i : Option D} (hq : S[q]? = some (.lst (t.map .int))) (hl : t.length ≤ 20) (hp : ∀ x ∈ t, In x) (hρ : ρ = [a, b, c, some (.ref q), e, d, f, g, h, i]) :
    wpS (exs (Rn K) G 100 b_law_3 ρ S) PQ nE := by
  subst hρ
  simp [b_law_3]
  refine wp_mono (cut_spec (K := K) (by omega) hq (by omega)) (fun d S2 n => ?_) (fun _ _ z => z.elim)
  obtain ⟨r, rfl, hr, h2⟩ := n.ex
  simp [vfin, b_law_4, lst_lst h2]
  have x2 : Ext S2 (S2 ++ [Ob.lst ((trimZ t).map D.int)]) := Ext.app _ _
  exact law_5 hK ⟨x2.at h2, by simp, Nat.le_trans (trim_le t) hl, fun x m => hp x (trim_mem m)⟩ rfl
theorem law_2 {K : Nat} (hK : 2 ≤ K) {S : Sto} {q : Nat} {t : List Int} {ρ : Rho} {a c e d f g h i : Option D} (hr : Rowp S 1) (hq : S[q]? = some (.lst (t.map .int))) (hl : t.length ≤ 20) (hp : ∀ x ∈ t, In x) (q1 : q ≠ 1) (hρ : ρ = [a, some (.ref 1), c, some (.ref q), e, d, f, g, h, i]) :
    wpS (exs (Rn K) G 100 b_law_2 ρ S) PQ nE := by
  subst hρ
  cases t with
  | nil =>
    have hq' : S[q]? = some (.lst []) := hq
    simp [b_law_2, tru, lst_lst hq']
    exact law_3 hK hq hl hp rfl
  | cons t0 ts =>
    simp [b_law_2, tru, lst_lst hq]
    refine wp_use (take_ge takeF (by omega) (by decide : (0 : Int) < 4) hr) ?_
    rintro d1 S1 ⟨hr1, f1, x, rfl, x0, x1⟩
    have hq1 := (f1.get q q1).trans hq
    simp
    refine cas_beq (fun _ => ?_) (fun _ => ?_)
    · simp
      refine wp_use (take_ge takeF (by omega) (by decide : (0 : Int) < 59) hr1) ?_
      rintro d2 S2 ⟨hr2, f2, y, rfl, y0, y1⟩
      have hq2 := (f2.get q q1).trans hq1
      have w1 : y.natAbs < WID := wid64 (by omega)
      have w2 : 714924299 < WID := wid64 (z := 714924299) (by decide)
      have w3 : 59 < WID := wid64 (z := 59) (by decide)
      simp [w1, w2]
      refine wp_use (take_ge takeF (by omega) (by decide : (0 : Int) < 59) hr2) ?_
      rintro d3 S3 ⟨hr3, f3, z, rfl, z0, z1⟩
      have hq3 := (f3.get q q1).trans hq2
      have w4 : z.natAbs < WID := wid64 (by omega)
      simp [w3, w4, lst_lst hq3]
      refine wp_use (take_ge takeF (by omega) (by omega) hr3) ?_
      rintro d4 S4 ⟨hr4, f4, j, rfl, j0, j1⟩
      have hq4 := (f4.get q q1).trans hq3
      obtain ⟨jn, rfl⟩ := Int.eq_ofNat_of_zero_le j0
      have ix : ixN ((t0 :: ts).map D.int).length (jn : Int) = some jn := ixN_nat (by rw [List.length_map, List.length_cons]; omega)
      have sq : ∀ v : D, seti S4 (.ref q) (.int (jn : Int)) v = some (S4.set q (.lst (((t0 :: ts).map D.int).set jn v))) := fun v => by
        rw [seti_ref, mut_lst hq4, Option.bind_some, ix]
        rfl
      simp only [vfin, Bool.false_eq_true, if_false, sq, opt_some]
      simp [-List.map_cons, -List.map_set]
      have hq5 : (S4.set q (.lst (((t0 :: ts).map D.int).set jn (.int (y * 714924299 + z * 59 + 1)))))[q]? = some (.lst (((t0 :: ts).set jn (y * 714924299 + z * 59 + 1)).map .int)) := by
        rw [List.getElem?_set_self (lt_of_get hq4), List.map_set]
      refine law_3 hK hq5 (by simpa using hl) (fun w hw => ?_) rfl
      rcases List.mem_or_eq_of_mem_set hw with hw | rfl
      · exact hp w hw
      · exact ⟨by omega, by omega⟩
    · simp
      exact law_3 hK hq1 hl hp rfl
theorem law_spec {k : Nat} {ns : List Int} (hn : ns.length ≤ 63) : wp (Rn (k + 10) 7 [.ref 0] [.frz (ns.map .int)]) (fun d _ => d = .bl true) nE := by
  refine wp_run (F := rw_law.fn) rfl rfl ?_
  show wpS (exs _ _ _ b_law _ _) _ _
  simp [b_law, rw_law, Rw.fn, enter]
  refine wp_use (stream_spec streamF hn) ?_
  rintro d S1 ⟨rfl, hr1, hs, l4⟩
  simp [b_law_1, -wp_lc]
  refine wp_use (row_items_at (m := 9) (p := 1) (c := 2) takeF (by decide) (by decide) (show 1 ≤ k + 9 by omega) (by rfl) hr1 (fun d => ∃ x, d = .int x ∧ In x) (fun S j hr => ?_)) ?_
  · simp
    refine wp_use (take_ge takeF (by omega) (by decide : (0 : Int) < 59) hr) ?_
    rintro d S5 ⟨hr5, f5, x, rfl, x0, x1⟩
    exact ⟨hr5, f5.toR, x, rfl, x0, by omega⟩
  · rintro d S2 ⟨hr2, hx2, q, acc, rfl, hq, hq2, hall, hlen⟩
    obtain ⟨t, rfl, ht⟩ := ints_of hall
    rw [List.length_map] at hlen
    simp [vfin]
    exact law_2 (by omega) hr2 hq2 (by omega) ht (by omega) rfl
end K21
set_option Elab.async false
set_option linter.all false
set_option maxRecDepth 100000
set_option maxHeartbeats 8000000
namespace K21
open PySem PySem.Spec PyProof.Rows L2 Mx
theorem gl_int {K : PySem.W.Frag} {mg : Str → Option Value} {x : Str} {z : Int} (h : ∃ t, mg x = some (.int z t)) : ∃ u v, mg x = some u ∧ L2.RelV v u ∧ ∀ φ H, RV K φ H (.int z) v :=
  let ⟨t, e⟩ := h
  ⟨_, .int z, e, ⟨t, rfl⟩, fun _ _ => .int _⟩
theorem gr {P : Program} {w : World} {K : PySem.W.Frag} {mg : Str → Option Value} (A0 : At K (fun _ => 0) mg rw_trimmed) (A1 : At K (fun _ => 0) mg rw_candidates) (A2 : At K (fun _ => 0) mg rw__lower) (A3 : At K (fun _ => 0) mg rw__law_stream) (A4 : At K (fun _ => 0) mg rw__law_take) (A5 : At K (fun _ => 0) mg rw__law_cut) (A6 : At K (fun _ => 0) mg rw__law_less) (A7 : At K (fun _ => 0) mg rw_law)
    (z0 : mg "len" = none) (z1 : mg "abs" = none) (z2 : mg "int" = none) (z3 : mg "range" = none) (z4 : mg "isinstance" = none) (z5 : mg "list" = none) (z6 : mg "tuple" = none) (z7 : mg "sum" = none)
        : Gr T P w K (fun _ => 0) mg G rows := by
  refine ⟨fun r hr => ?_, fun r hr => ?_, fun x hx => ?_, fun x hx b hb => ?_, fun x hx d hd => ?_, fun x kvs hx => ?_, fun x c f hx => ?_, fun x yes no hx => ?_, fun x hx => ?_, fun x c i hx => ?_, fun m c i hx => ?_, fun f cs hx c hc => ?_, fun x n ds hx => ?_⟩
  · simp only [rows, List.mem_cons, List.not_mem_nil, or_false] at hr
    rcases hr with rfl | rfl | rfl | rfl | rfl | rfl | rfl | rfl
    · exact ok_trimmed
    · exact ok_candidates
    · exact ok__lower
    · exact ok__law_stream
    · exact ok__law_take
    · exact ok__law_cut
    · exact ok__law_less
    · exact ok_law
  · simp only [rows, List.mem_cons, List.not_mem_nil, or_false] at hr
    rcases hr with rfl | rfl | rfl | rfl | rfl | rfl | rfl | rfl
    · exact A0
    · exact A1
    · exact A2
    · exact A3
    · exact A4
    · exact A5
    · exact A6
    · exact A7
  · simp only [T, List.contains_iff_mem, List.mem_cons, List.not_mem_nil, or_false] at hx
    rcases hx with rfl | rfl | rfl | rfl | rfl | rfl | rfl | rfl
    · exact z0
    · exact z1
    · exact z2
    · exact z3
    · exact z4
    · exact z5
    · exact z6
    · exact z7
  · cases hx
  · cases hx
  · cases hx
  · cases hx
  · cases hx
  · simp only [T, List.contains_iff_mem, List.mem_cons, List.not_mem_nil, or_false] at hx
    rcases hx with rfl | rfl | rfl | rfl | rfl | rfl | rfl | rfl
    · exact ⟨rw_trimmed, rfl, rfl, rfl⟩
    · exact ⟨rw_candidates, rfl, rfl, rfl⟩
    · exact ⟨rw__lower, rfl, rfl, rfl⟩
    · exact ⟨rw__law_stream, rfl, rfl, rfl⟩
    · exact ⟨rw__law_take, rfl, rfl, rfl⟩
    · exact ⟨rw__law_cut, rfl, rfl, rfl⟩
    · exact ⟨rw__law_less, rfl, rfl, rfl⟩
    · exact ⟨rw_law, rfl, rfl, rfl⟩
  · cases hx
  · cases hx
  · cases hx
  · cases hx
end K21
open PyProof.Rows PySem PySem.W
set_option maxHeartbeats 0 in
theorem PySem.Challenge.cw_chance_k21_steps_down_holds : PySem.Challenge.rw_chance_k21_steps_down.Holds := by
  w_on; o_law; k_head; (case hw => w_witness2)
  k_fill
  refine Mx.law_end (l := PySem.Challenge.rw_chance_k21_steps_down) (n := 63) (k := 20) (wt := 100) (i := 7) (T := K21.T) (G := K21.G) (rows := K21.rows) (r := K21.rw_law) (x := "script") rfl (by decide) rfl ⟨rfl, by decide, by decide⟩ rfl rfl rfl rfl ?Ftop (fun ns hl hb => ?Mrun)
  case Mrun =>
    obtain ⟨d, S, e1, e2⟩ := Mx.wp_get (K21.law_spec (k := 10) (ns := ns) hl)
    subst e2
    exact ⟨S, e1⟩
  case Ftop =>
    intro w mg h Y G
    have X := PySem.W.kIn_of Y
    refine' ⟨_, _, X, K21.gr ?xA0 ?xA1 ?xA2 ?xA3 ?xA4 ?xA5 ?xA6 ?xA7 ?xz0 ?xz1 ?xz2 ?xz3 ?xz4 ?xz5 ?xz6 ?xz7⟩
    case xA0 =>
      refine' Mx.at_mk X G ?a ?l ?c ?k ?b
      (case a => k_is); (case l => k_is); (case c => k_is); (case k => k_is)
      case b => exact fun _ _ _ _ _ _ us hl => match us, hl with | [_], _ => rfl
    case xA1 =>
      refine' Mx.at_mk X G ?a ?l ?c ?k ?b
      (case a => k_is); (case l => k_is); (case c => k_is); (case k => k_is)
      case b => exact fun _ _ _ _ _ _ us hl => match us, hl with | [_], _ => rfl
    case xA2 =>
      refine' Mx.at_mk X G ?a ?l ?c ?k ?b
      (case a => k_is); (case l => k_is); (case c => k_is); (case k => k_is)
      case b => exact fun _ _ _ _ _ _ us hl => match us, hl with | [_], _ => rfl
    case xA3 =>
      refine' Mx.at_mk X G ?a ?l ?c ?k ?b
      (case a => k_is); (case l => k_is); (case c => k_is); (case k => k_is)
      case b => exact fun _ _ _ _ _ _ us hl => match us, hl with | [_], _ => rfl
    case xA4 =>
      refine' Mx.at_mk X G ?a ?l ?c ?k ?b
      (case a => k_is); (case l => k_is); (case c => k_is); (case k => k_is)
      case b => exact fun _ _ _ _ _ _ us hl => match us, hl with | [_, _], _ => rfl
    case xA5 =>
      refine' Mx.at_mk X G ?a ?l ?c ?k ?b
      (case a => k_is); (case l => k_is); (case c => k_is); (case k => k_is)
      case b => exact fun _ _ _ _ _ _ us hl => match us, hl with | [_], _ => rfl
    case xA6 =>
      refine' Mx.at_mk X G ?a ?l ?c ?k ?b
      (case a => k_is); (case l => k_is); (case c => k_is); (case k => k_is)
      case b => exact fun _ _ _ _ _ _ us hl => match us, hl with | [_], _ => rfl
    case xA7 =>
      refine' Mx.at_mk X G ?a ?l ?c ?k ?b
      (case a => k_is); (case l => k_is); (case c => k_is); (case k => k_is)
      case b => exact fun _ _ _ _ _ _ us hl => match us, hl with | [_], _ => rfl
    case xz0 =>
      refine' PySem.W.mg_none_of X G ?z
      case z => k_is
    case xz1 =>
      refine' PySem.W.mg_none_of X G ?z
      case z => k_is
    case xz2 =>
      refine' PySem.W.mg_none_of X G ?z
      case z => k_is
    case xz3 =>
      refine' PySem.W.mg_none_of X G ?z
      case z => k_is
    case xz4 =>
      refine' PySem.W.mg_none_of X G ?z
      case z => k_is
    case xz5 =>
      refine' PySem.W.mg_none_of X G ?z
      case z => k_is
    case xz6 =>
      refine' PySem.W.mg_none_of X G ?z
      case z => k_is
    case xz7 =>
      refine' PySem.W.mg_none_of X G ?z
      case z => k_is
