import PyProof.Rows.All
import Wide.All
import OpenK.AllK
import Wide.FinOn
import HandS.ForMost
import HandS.Style
import HandS.TupAny
import HandS.TupMul
import HandS.IsInst
import HandS.Zip
import HandS.Walk
import HandS.Wide
import HandS.Flow
import HandS.Gcd
import HandS.TupSets
import KE.GoesEnum
import KE.SortData
import KE.KRevSl
import HandS.Defaults
import PyProof.Rows.InDataRows
import KE.DataCmp
import KE.DataMinMax
import PyProof.SliceList
import HandS.SortKw
import PyProof.MaxThree
import HandS.SetFor
import HandS.Strs
import HandS.Text
import HandS.DictComp
import PyProof.AutoSeq1
import HandS.ExcCtx
import HandS.HotCalls
import HandS.ExcIs
import HandS.Conv
import PyProof.SliceStr2
import PyProof.StrBlock
import PyProof.StrLawsIdx
import PyProof.StrOps2
import HandS.RepeatKit
import PyProof.Rows.SortShell
import PySem.Challenge.RW_blockpiles_k25_whole_best_sequences
set_option Elab.async false
set_option linter.all false
set_option maxRecDepth 100000
/-! DLa: data in the heap, the state relation, readings by data. -/
namespace DL
open PySem PySem.Spec PyProof.Rows L2

abbrev D := PyData
abbrev DEnv := List (Option D)
abbrev M (α : Type) := Nat → Option (α × Nat)
/-- the markers: the list that counts draws, the script -/
abbrev mkSt : D := .dict []
abbrev mkSc : D := .dict [(.none, .none)]

/-! ### data in the heap -/
mutual
inductive Rp (K : PySem.W.Frag) (H : Hp) : V → D → Prop
  | non : Rp K H .non .none
  | bl (b : Bool) : Rp K H (.bl b) (.bool b)
  | int (i : Int) : Rp K H (.int i) (.int i)
  | str (x : Str) : Rp K H (.str x) (.str x)
  | lst {a : Addr} {xs : List V} {ds : List D} : H a = some (.lst xs) → RpAll K H xs ds → Rp K H (.ref a) (.list ds)
  | tup {a : Addr} {xs : List V} {ds : List D} : SqT K H a xs → RpAll K H xs ds → Rp K H (.ref a) (.tuple ds)
inductive RpAll (K : PySem.W.Frag) (H : Hp) : List V → List D → Prop
  | nil : RpAll K H [] []
  | cons {v : V} {vs : List V} {d : D} {ds : List D} : Rp K H v d → RpAll K H vs ds → RpAll K H (v :: vs) (d :: ds)
end

theorem Same.seqT {K : PySem.W.Frag} {H H' : Hp} {a : Addr} {xs : List V} (s : Same H H') (h : SqT K H a xs) : SqT K H' a xs := by
  rcases h with (h | ⟨o, h⟩) | h
  · exact .inl (.inl (s _ _ h))
  · exact .inl (.inr ⟨o, s _ _ h⟩)
  · exact .inr h
section
variable {K : PySem.W.Frag} {H H' : Hp}
mutual
theorem Rp.same (s : Same H H') : ∀ (d : D) (v : V), Rp K H v d → Rp K H' v d
  | .none, _, h => by cases h; exact .non
  | .bool b, _, h => by cases h; exact .bl b
  | .int i, _, h => by cases h; exact .int i
  | .str x, _, h => by cases h; exact .str x
  | .list ds, _, h => by
    cases h with
    | lst hs ha => exact .lst (s _ _ hs) (RpAll.same s ds _ ha)
  | .tuple ds, _, h => by
    cases h with
    | tup hs ha => exact .tup (Same.seqT s hs) (RpAll.same s ds _ ha)
  | .dict _, _, h => by cases h
theorem RpAll.same (s : Same H H') : ∀ (ds : List D) (vs : List V), RpAll K H vs ds → RpAll K H' vs ds
  | [], _, h => by cases h; exact .nil
  | d :: ds, _, h => by
    cases h with
    | cons h1 h2 => exact .cons (Rp.same s d _ h1) (RpAll.same s ds _ h2)
end
mutual
theorem Rp.dp : ∀ (d : D) (v : V), Rp K H v d → Dp K H v d
  | .none, _, h => by cases h; exact .non
  | .bool b, _, h => by cases h; exact .bl b
  | .int i, _, h => by cases h; exact .int i
  | .str x, _, h => by cases h; exact .str x
  | .list ds, _, h => by
    cases h with
    | lst hs ha => exact .lst (SqL.of hs) (RpAll.dp ds _ ha)
  | .tuple ds, _, h => by
    cases h with
    | tup hs ha => exact .tup hs (RpAll.dp ds _ ha)
  | .dict _, _, h => by cases h
theorem RpAll.dp : ∀ (ds : List D) (vs : List V), RpAll K H vs ds → DpAll K H vs ds
  | [], _, h => by cases h; exact .nil
  | d :: ds, _, h => by
    cases h with
    | cons h1 h2 => exact .cons (Rp.dp d _ h1) (RpAll.dp ds _ h2)
end
theorem RpAll.length : ∀ {vs : List V} {ds : List D}, RpAll K H vs ds → vs.length = ds.length
  | [], [], _ => rfl
  | _ :: _, _ :: _, .cons _ t => by rw [List.length_cons, List.length_cons, RpAll.length t]
theorem RpAll.get : ∀ {vs : List V} {ds : List D} {i : Nat} {v : V}, RpAll K H vs ds → vs[i]? = some v → ∃ d, ds[i]? = some d ∧ Rp K H v d
  | [], [], _, _, _, h => by simp at h
  | _ :: _, d :: _, 0, v, .cons r _, h => by
    simp at h; subst h; exact ⟨d, rfl, r⟩
  | _ :: _, _ :: _, i + 1, v, .cons _ t, h => by
    obtain ⟨d, h1, h2⟩ := RpAll.get (i := i) t (by simpa using h)
    exact ⟨d, by simpa using h1, h2⟩
theorem RpAll.getD : ∀ {vs : List V} {ds : List D} {i : Nat} {d : D}, RpAll K H vs ds → ds[i]? = some d → ∃ v, vs[i]? = some v ∧ Rp K H v d
  | [], [], _, _, _, h => by simp at h
  | v :: _, _ :: _, 0, d, .cons r _, h => by
    simp at h; subst h; exact ⟨v, rfl, r⟩
  | _ :: _, _ :: _, i + 1, d, .cons _ t, h => by
    obtain ⟨v, h1, h2⟩ := RpAll.getD (i := i) t (by simpa using h)
    exact ⟨v, by simpa using h1, h2⟩
theorem RpAll.append : ∀ {vs ws : List V} {ds es : List D}, RpAll K H vs ds → RpAll K H ws es → RpAll K H (vs ++ ws) (ds ++ es)
  | [], _, [], _, .nil, s => s
  | _ :: _, _, _ :: _, _, .cons r t, s => .cons r (RpAll.append t s)
theorem RpAll.take : ∀ {vs : List V} {ds : List D} (n : Nat), RpAll K H vs ds → RpAll K H (vs.take n) (ds.take n)
  | _, _, 0, _ => .nil
  | _, _, _ + 1, .nil => .nil
  | _, _, n + 1, .cons r t => .cons r (RpAll.take n t)
theorem RpAll.drop : ∀ {vs : List V} {ds : List D} (n : Nat), RpAll K H vs ds → RpAll K H (vs.drop n) (ds.drop n)
  | _, _, 0, r => r
  | _, _, _ + 1, .nil => .nil
  | _, _, n + 1, .cons _ t => RpAll.drop n t
theorem RpAll.set {v : V} {d : D} (r : Rp K H v d) : ∀ {vs : List V} {ds : List D} (i : Nat), RpAll K H vs ds → RpAll K H (vs.set i v) (ds.set i d)
  | _, _, _, .nil => .nil
  | _, _, 0, .cons _ t => .cons r t
  | _, _, i + 1, .cons q t => .cons q (RpAll.set r i t)
theorem RpAll.eraseIdx : ∀ {vs : List V} {ds : List D} (i : Nat), RpAll K H vs ds → RpAll K H (vs.eraseIdx i) (ds.eraseIdx i)
  | _, _, _, .nil => .nil
  | _, _, 0, .cons _ t => t
  | _, _, i + 1, .cons q t => .cons q (RpAll.eraseIdx i t)
theorem RpAll.dropLast {vs : List V} {ds : List D} (h : RpAll K H vs ds) : RpAll K H vs.dropLast ds.dropLast := by
  rw [List.dropLast_eq_take, List.dropLast_eq_take, h.length]
  exact h.take _
theorem RpAll.rep {vs : List V} {ds : List D} (h : RpAll K H vs ds) : ∀ k : Nat, RpAll K H (List.replicate k vs).flatten (List.replicate k ds).flatten
  | 0 => .nil
  | k + 1 => by
    rw [List.replicate_succ, List.replicate_succ, List.flatten_cons, List.flatten_cons]
    exact h.append (RpAll.rep h k)
theorem RpAll.one {v : V} {d : D} (r : Rp K H v d) : RpAll K H [v] [d] := .cons r .nil
end

/-! ### the state relation -/
/-- the mode: where the draws' list and the script stand -/
abbrev Md := Option (Addr × Addr)
/-- an object as data: its class by name, its fields -/
def mkOb (cls : Str) (names : List Str) (ds : List D) : D := .dict ((.str cls, .none) :: (names.zip ds).map fun p => (.str p.1, p.2))
/-- an object whose fields don't change -/
def OSt (K : PySem.W.Frag) (H : Hp) (v : V) (d : D) : Prop := ∃ (a C dx : Addr) (cls : Str) (fs : List (Str × V)) (ds : List D), v = .ref a ∧ PySem.W.nsIn K mainGlobals cls = some (some (.ref C)) ∧ H a = some (.ins C dx fs) ∧ RpAll K H (fs.map (·.2)) ds ∧ d = mkOb cls (fs.map (·.1)) ds
theorem OSt.same {K : PySem.W.Frag} {H H' : Hp} {v : V} {d : D} (s : Same H H') (h : OSt K H v d) : OSt K H' v d := by
  obtain ⟨a, C, dx, cls, fs, ds, h1, h2, h3, h4, h5⟩ := h
  exact ⟨a, C, dx, cls, fs, ds, h1, h2, s _ _ h3, RpAll.same s _ _ h4, h5⟩
/-- a range as data: a mark, its ends; a dict of texts and ints: a mark, its items -/
abbrev mkRg (lo hi : Int) : D := .dict [(.none, .int lo), (.none, .int hi)]
abbrev mkTx (kvs : List (Str × Int)) : D := .dict ((.none, .bool true) :: kvs.map fun p => (.str p.1, .int p.2))
def SpO (o : HO) (x : D) (r : List (D × D)) : Prop := (∃ lo hi : Int, o = .rng lo hi ∧ x = .int lo ∧ r = [(.none, .int hi)]) ∨ ∃ kvs : List (Str × Int), o = .dK (kvs.map fun p => (Sum.inr p.1, V.int p.2)) ∧ x = .bool true ∧ r = kvs.map fun p => (.str p.1, .int p.2)
/-- an exception as data: a mark, its address, its class by name; nothing is said of the heap -/
abbrev mkEx (a : Addr) (y : Str) : D := .dict [(.none, .none), (.str y, .int (a : Nat))]
/-! own dicts: keys are ints and tuples of such; a dict as data: two marks, its items -/
mutual
def hashD : D → Int
  | .int i => hashInt i
  | .tuple ds => reduceHash (Builtin.Tuple.tupleHashOf (hashDs ds))
  | _ => 0
def hashDs : List D → List Int
  | [] => []
  | d :: ds => hashD d :: hashDs ds
end
def keyN : Nat → D → Bool
  | _, .int _ => true
  | n + 1, .tuple ds => ds.all (keyN n)
  | _, _ => false
def keyT : D → Bool
  | .tuple ds => ds.all (keyN 6)
  | _ => false
abbrev mkDi (kvs : List (D × D)) : D := .dict ((.none, .none) :: (.none, .none) :: kvs)
def dicE (x : D × Addr × Value) : DictEntry := ⟨hashD x.1, .ref x.2.1, x.2.2⟩
def dicP (p : Addr) (xs : List (D × Addr × Value)) (ep : Nat) (h : Heap) : Prop := ∃ o es, h.get? p = some o ∧ o.ExactDict ∧ o.data = .dict es ep ∧ es.toList = xs.map dicE
def EntR (K : PySem.W.Frag) (Hs : Hp) (kv : D × D) (x : D × Addr × Value) : Prop := kv.1 = x.1 ∧ keyT x.1 = true ∧ Rp K Hs (.ref x.2.1) x.1 ∧ ∃ v, RelV v x.2.2 ∧ Rp K Hs v kv.2
theorem EntR.same {K : PySem.W.Frag} {H H' : Hp} (s : Same H H') (kv : D × D) (x : D × Addr × Value) (h : EntR K H kv x) : EntR K H' kv x := by
  obtain ⟨h1, h2, h3, v, h4, h5⟩ := h
  exact ⟨h1, h2, Rp.same s _ _ h3, v, h4, Rp.same s _ _ h5⟩
def DicR (K : PySem.W.Frag) (Hs : Hp) (p : Addr) (o : HO) (d : D) : Prop := ∃ (kvs : List (D × D)) (xs : List (D × Addr × Value)) (ep : Nat), d = mkDi kvs ∧ o = .ext (dicP p xs ep) ∧ Paired (EntR K Hs) kvs xs ∧ (xs.map (·.1)).Nodup ∧ xs.length ≤ 1000000 ∧ (p == sysModules) = false
theorem DicR.same {K : PySem.W.Frag} {H H' : Hp} {p : Addr} {o : HO} {d : D} (s : Same H H') (h : DicR K H p o d) : DicR K H' p o d := by
  obtain ⟨kvs, xs, ep, h1, h2, h3, h4⟩ := h
  exact ⟨kvs, xs, ep, h1, h2, Paired.mapP h3 (EntR.same s), h4⟩
def RSt (K : PySem.W.Frag) (H : Hp) (v : V) (d : D) : Prop := ∃ (a : Addr) (o : HO) (x : D) (r : List (D × D)), v = .ref a ∧ ((H a = some o ∧ SpO o x r) ∨ (x = .none ∧ ((∃ y, r = [(.str y, .int (a : Nat))]) ∨ ∃ r', r = (.none, .none) :: r' ∧ H a = some o ∧ DicR K H a o (mkDi r')))) ∧ d = .dict ((.none, x) :: r)
theorem RSt.same {K : PySem.W.Frag} {H H' : Hp} {v : V} {d : D} (s : Same H H') (h : RSt K H v d) : RSt K H' v d := by
  obtain ⟨a, o, x, r, h1, h2, h3⟩ := h
  exact ⟨a, o, x, r, h1, h2.imp (fun h => ⟨s _ _ h.1, h.2⟩) (fun h => ⟨h.1, h.2.imp id fun ⟨r', e, h4, h5⟩ => ⟨r', e, s _ _ h4, h5.same s⟩⟩), h3⟩
/-- what a def's own slot holds: a list, or a dict -/
def OwnR (K : PySem.W.Frag) (Hs : Hp) (p : Addr) (o : HO) (d : D) : Prop := (∃ vs ds, o = .lst vs ∧ d = .list ds ∧ RpAll K Hs vs ds) ∨ DicR K Hs p o d
theorem OwnR.same {K : PySem.W.Frag} {H H' : Hp} {p : Addr} {o : HO} {d : D} (s : Same H H') (h : OwnR K H p o d) : OwnR K H' p o d := by
  rcases h with ⟨vs, ds, h1, h2, h3⟩ | h
  · exact .inl ⟨vs, ds, h1, h2, RpAll.same s _ _ h3⟩
  · exact .inr (h.same s)
theorem OwnR.lst {K : PySem.W.Frag} {H : Hp} {p : Addr} {vs : List V} {ds : List D} (h : RpAll K H vs ds) : OwnR K H p (.lst vs) (.list ds) := .inl ⟨vs, ds, rfl, rfl, h⟩
def SRep (K : PySem.W.Frag) (ns : List Int) (c : Md) (H : Hp) (v : V) (d : D) : Prop :=
  Rp K H v d ∨ (d = mkSt ∧ ∃ p, c = some p ∧ v = .ref p.1) ∨ (d = mkSc ∧ ∃ p, c = some p ∧ v = .ref p.2 ∧ SqL K H p.2 (ns.map V.int)) ∨ OSt K H v d ∨ RSt K H v d
theorem SRep.same {K : PySem.W.Frag} {ns : List Int} {c : Md} {H H' : Hp} {v : V} {d : D} (s : Same H H') (h : SRep K ns c H v d) : SRep K ns c H' v d := by
  rcases h with h | h | ⟨e, p, h1, h2, h3⟩ | h | h
  · exact .inl (Rp.same s _ _ h)
  · exact .inr (.inl h)
  · exact .inr (.inr (.inl ⟨e, p, h1, h2, s.seq h3⟩))
  · exact .inr (.inr (.inr (.inl (h.same s))))
  · exact .inr (.inr (.inr (.inr (h.same s))))
def Cel (c : Md) (n : Nat) (H : Hp) : Prop := ∀ p, c = some p → H p.1 = some (.lst (List.replicate n (V.int 0)))
def SameC (c : Md) (H H' : Hp) : Prop := ∀ b o, (∀ p, c = some p → b ≠ p.1) → H b = some o → H' b = some o
structure Ext (c : Md) (Hs H Hs' H' : Hp) : Prop where
  st : Same Hs Hs'
  al : SameC c H H'
  sub : Same Hs' H'
  new : ∀ p, Hs' p ≠ none → Hs p ≠ none ∨ H p = none
/-- .. that leaves the draws' list too -/
structure ExtP (Hs H Hs' H' : Hp) : Prop where
  st : Same Hs Hs'
  al : Same H H'
  sub : Same Hs' H'
  new : ∀ p, Hs' p ≠ none → Hs p ≠ none ∨ H p = none
theorem Same.rfl' {H : Hp} : Same H H := fun _ _ e => e
theorem Same.trans' {H H1 H2 : Hp} (a : Same H H1) (b : Same H1 H2) : Same H H2 := fun p o e => b p o (a p o e)
theorem ExtP.refl {Hs H : Hp} (s : Same Hs H) : ExtP Hs H Hs H := ⟨Same.rfl', Same.rfl', s, fun _ h => .inl h⟩
theorem ExtP.ext {c : Md} {Hs H Hs' H' : Hp} (e : ExtP Hs H Hs' H') : Ext c Hs H Hs' H' := ⟨e.st, fun b o _ h => e.al b o h, e.sub, e.new⟩
theorem ExtP.cel {c : Md} {n : Nat} {Hs H Hs' H' : Hp} (e : ExtP Hs H Hs' H') (h : Cel c n H) : Cel c n H' := fun p hp => e.al _ _ (h p hp)
theorem ExtP.trans {Hs H Hs1 H1 Hs2 H2 : Hp} (a : ExtP Hs H Hs1 H1) (b : ExtP Hs1 H1 Hs2 H2) : ExtP Hs H Hs2 H2 :=
  ⟨Same.trans' a.st b.st, Same.trans' a.al b.al, b.sub, fun p h => by
    rcases b.new p h with h | h
    · exact a.new p h
    · cases e : H p with
      | none => exact .inr rfl
      | some o => rw [a.al p o e] at h; cases h⟩
/-- a new object, stable -/
theorem ExtP.new1 {Hs H : Hp} {p : Addr} {o : HO} (s : Same Hs H) (h : H p = none) : ExtP Hs H (upd Hs p o) (upd H p o) := by
  have hs : Hs p = none := by
    cases e : Hs p with
    | none => rfl
    | some u => rw [s p u e] at h; cases h
  refine ⟨fun b x e => ?_, fun b x e => ?_, fun b x e => ?_, fun b hb => ?_⟩
  · rw [upd_ne (ne_of_none e hs)]; exact e
  · rw [upd_ne (ne_of_none e h)]; exact e
  · by_cases q : b = p
    · subst q; rw [upd_same] at e ⊢; exact e
    · rw [upd_ne q] at e ⊢; exact s b x e
  · by_cases q : b = p
    · subst q; exact .inr h
    · rw [upd_ne q] at hb; exact .inl hb
theorem Ext.trans {c : Md} {n : Nat} {Hs H Hs1 H1 Hs2 H2 : Hp} (a : Ext c Hs H Hs1 H1) (cl : Cel c n H1) (b : Ext c Hs1 H1 Hs2 H2) : Ext c Hs H Hs2 H2 :=
  ⟨Same.trans' a.st b.st, fun p o hp e => b.al p o hp (a.al p o hp e), b.sub, fun p h => by
    rcases b.new p h with h | h
    · exact a.new p h
    · cases e : H p with
      | none => exact .inr rfl
      | some o =>
        by_cases hc : ∀ q, c = some q → p ≠ q.1
        · rw [a.al p o hc e] at h; cases h
        · exfalso
          apply hc
          intro q hq hpq
          rw [hpq, cl q hq] at h
          cases h⟩

structure Rel (K : PySem.W.Frag) (ns : List Int) (c : Md) (W : List Nat) (Hs0 H0 Hs H : Hp) (σ : L2.St) (ρ : DEnv) (n : Nat) : Prop where
  ext : Ext c Hs0 H0 Hs H
  cel : Cel c n H
  hc : ∀ p, c = some p → Hs p.1 = none
  vars : ∀ (i : Nat) (d : D), ρ[i]? = some (some d) → i ∉ W → ∃ v, σ[i]? = some (some v) ∧ SRep K ns c Hs v d
  own : ∀ i ∈ W, ∃ p o d, ρ[i]? = some (some d) ∧ σ[i]? = some (some (.ref p)) ∧ H p = some o ∧ OwnR K Hs p o d ∧ Hs p = none ∧ H0 p = none ∧ ∀ q, c = some q → p ≠ q.1
  apart : ∀ i ∈ W, ∀ j ∈ W, i ≠ j → ∀ p, σ[i]? = some (some (.ref p)) → σ[j]? = some (some (.ref p)) → False
  len : σ.length = ρ.length
section
variable {K : PySem.W.Frag} {ns : List Int} {c : Md} {W : List Nat} {Hs0 H0 Hs H Hs' H' : Hp} {σ : L2.St} {ρ : DEnv} {n n' : Nat}
theorem Rel.ownL (r : Rel K ns c W Hs0 H0 Hs H σ ρ n) {i : Nat} (hi : i ∈ W) {ds : List D} (h : ρ[i]? = some (some (.list ds))) : ∃ p vs ds, ρ[i]? = some (some (.list ds)) ∧ σ[i]? = some (some (.ref p)) ∧ H p = some (.lst vs) ∧ RpAll K Hs vs ds ∧ Hs p = none ∧ H0 p = none ∧ ∀ q, c = some q → p ≠ q.1 := by
  obtain ⟨p, o, d, a1, a2, a3, a4, a5, a6, a7⟩ := r.own i hi
  rw [a1] at h
  cases h
  rcases a4 with ⟨vs, ds', h1, h2, h3⟩ | ⟨kvs, xs, _, h1, h2⟩
  · cases h2
    subst h1
    exact ⟨p, vs, ds, a1, a2, a3, h3, a5, a6, a7⟩
  · cases h1
theorem Rel.ownD (r : Rel K ns c W Hs0 H0 Hs H σ ρ n) {i : Nat} (hi : i ∈ W) {kvs : List (D × D)} (h : ρ[i]? = some (some (mkDi kvs))) : ∃ p xs ep, σ[i]? = some (some (.ref p)) ∧ H p = some (.ext (dicP p xs ep)) ∧ Paired (EntR K Hs) kvs xs ∧ (xs.map (·.1)).Nodup ∧ xs.length ≤ 1000000 ∧ (p == sysModules) = false ∧ Hs p = none ∧ H0 p = none ∧ ∀ q, c = some q → p ≠ q.1 := by
  obtain ⟨p, o, d, a1, a2, a3, a4, a5, a6, a7⟩ := r.own i hi
  rw [a1] at h
  cases h
  rcases a4 with ⟨vs, ds', h1, h2, h3⟩ | ⟨kvs', xs, ep, h1, h2, h3, h4, h5, h6⟩
  · cases h2
  · cases h1
    subst h2
    exact ⟨p, xs, ep, a2, a3, h3, h4, h5, h6, a5, a6, a7⟩
theorem Rel.sub (r : Rel K ns c W Hs0 H0 Hs H σ ρ n) : Same Hs H := r.ext.sub
theorem Ext.keep0 (e : Ext c Hs H Hs' H') {p : Addr} (h : Hs p = none) (h2 : H p ≠ none) : Hs' p = none := by
  cases q : Hs' p with
  | none => rfl
  | some o =>
    rcases e.new p (by rw [q]; exact fun z => nomatch z) with z | z
    · exact absurd h z
    · exact absurd z h2
theorem Rel.step (r : Rel K ns c W Hs0 H0 Hs H σ ρ n) (e : Ext c Hs H Hs' H') (cl : Cel c n' H') : Rel K ns c W Hs0 H0 Hs' H' σ ρ n' where
  ext := r.ext.trans r.cel e
  cel := cl
  hc := fun p hp => e.keep0 (r.hc p hp) (by rw [r.cel p hp]; exact fun z => nomatch z)
  vars := fun i d h hi => let ⟨v, h1, h2⟩ := r.vars i d h hi; ⟨v, h1, h2.same e.st⟩
  own := fun i hi => by
    obtain ⟨p, vs, ds, h1, h2, h3, h4, h5, h6, h7⟩ := r.own i hi
    exact ⟨p, vs, ds, h1, h2, e.al p _ h7 h3, h4.same e.st, e.keep0 h5 (by rw [h3]; exact fun z => nomatch z), h6, h7⟩
  apart := r.apart
  len := r.len
theorem Rel.stepP (r : Rel K ns c W Hs0 H0 Hs H σ ρ n) (e : ExtP Hs H Hs' H') : Rel K ns c W Hs0 H0 Hs' H' σ ρ n := r.step e.ext (e.cel r.cel)
end

/-! ### readings -/
def tD (K : PySem.W.Frag) (ns : List Int) (c : Md) (W : List Nat) (f : DEnv → M D) : TE := fun σ H Q => ∃ Hs0 H0 Hs ρ n d n', Rel K ns c W Hs0 H0 Hs H σ ρ n ∧ f ρ n = some (d, n') ∧
  ∀ v Hs' H', Ext c Hs H Hs' H' → Cel c n' H' → SRep K ns c Hs' v d → Q v H'
def tDT (K : PySem.W.Frag) (ns : List Int) (c : Md) (W : List Nat) (f : DEnv → M Bool) : TT := fun σ H Q => ∃ Hs0 H0 Hs ρ n d n', Rel K ns c W Hs0 H0 Hs H σ ρ n ∧ f ρ n = some (d, n') ∧
  ∀ Hs' H', Ext c Hs H Hs' H' → Cel c n' H' → Q d H'
def tDA (K : PySem.W.Frag) (ns : List Int) (c : Md) (W : List Nat) (f : DEnv → M (List D)) : TA := fun σ H Q => ∃ Hs0 H0 Hs ρ n ds n', Rel K ns c W Hs0 H0 Hs H σ ρ n ∧ f ρ n = some (ds, n') ∧
  ∀ vs Hs' H', Ext c Hs H Hs' H' → Cel c n' H' → Paired (SRep K ns c Hs') vs ds → Q vs H'
abbrev ED (X : Cx) (ns : List Int) (c : Md) (W : List Nat) (e : Expr) (f : DEnv → M D) : Prop := PE X e (tD X.K ns c W f)
abbrev TD (X : Cx) (ns : List Int) (c : Md) (W : List Nat) (e : Expr) (f : DEnv → M Bool) : Prop := PT X e (tDT X.K ns c W f)
abbrev AD (X : Cx) (ns : List Int) (c : Md) (W : List Nat) (es : List Expr) (f : DEnv → M (List D)) : Prop := PA X es (tDA X.K ns c W f)

theorem pe_weak {X : Cx} {e : Expr} {t t' : TE} (h : PE X e t) (w : ∀ σ H Q, t' σ H Q → t σ H Q) : PE X e t' := ⟨fun pins s σ H Q I q => h.run pins s σ H Q I (w σ H Q q)⟩
theorem pt_weak {X : Cx} {e : Expr} {t t' : TT} (h : PT X e t) (w : ∀ σ H Q, t' σ H Q → t σ H Q) : PT X e t' := ⟨fun pins s σ H Q I q => h.run pins s σ H Q I (w σ H Q q)⟩
theorem pw_weak {X : Cx} {e : Expr} {t t' : TT} (h : PW X e t) (w : ∀ σ H Q, t' σ H Q → t σ H Q) : PW X e t' := ⟨fun wh pins s σ H Q I q => h.run wh pins s σ H Q I (w σ H Q q)⟩
theorem pa_weak {X : Cx} {es : List Expr} {t t' : TA} (h : PA X es t) (w : ∀ σ H Q, t' σ H Q → t σ H Q) : PA X es t' := ⟨fun pos pins s σ H Q I q => h.run pos pins s σ H Q I (w σ H Q q)⟩
theorem ps_weak {X : Cx} {st : Stmt} {t t' : TS} (h : PS X st t) (w : ∀ E σ H, t' E σ H → t E σ H) : PS X st t' := ⟨fun pins s σ H E I q => h.run pins s σ H E I (w E σ H q)⟩
theorem pss_weak {X : Cx} {st : List Stmt} {t t' : TS} (h : PSs X st t) (w : ∀ E σ H, t' E σ H → t E σ H) : PSs X st t' := ⟨fun pins s σ H E I q => h.run pins s σ H E I (w E σ H q)⟩

/-! ### denotations of expressions -/
def dVar (i : Nat) : DEnv → M D := fun ρ n => match ρ[i]? with
  | some (some d) => some (d, n)
  | _ => none
def dC (d : D) : DEnv → M D := fun _ n => some (d, n)
def dBin (h : D → D → Option D) (f g : DEnv → M D) : DEnv → M D := fun ρ n =>
  match f ρ n with
  | some (x, n1) => match g ρ n1 with
    | some (y, n2) => match h x y with
      | some z => some (z, n2)
      | none => none
    | none => none
  | none => none
def dUn (h : D → Option D) (f : DEnv → M D) : DEnv → M D := fun ρ n =>
  match f ρ n with
  | some (x, n1) => match h x with
    | some z => some (z, n1)
    | none => none
  | none => none
def dAs (fs : List (DEnv → M D)) : DEnv → M (List D) := fun ρ n =>
  match fs with
  | [] => some ([], n)
  | f :: fs => match f ρ n with
    | some (x, n1) => match dAs fs ρ n1 with
      | some (xs, n2) => some (x :: xs, n2)
      | none => none
    | none => none
def dUnA (h : List D → Option D) (f : DEnv → M (List D)) : DEnv → M D := fun ρ n =>
  match f ρ n with
  | some (x, n1) => match h x with
    | some z => some (z, n1)
    | none => none
  | none => none
def dCall (m : List D → M D) (f : DEnv → M (List D)) : DEnv → M D := fun ρ n =>
  match f ρ n with
  | some (x, n1) => m x n1
  | none => none
def dTest (f : DEnv → M D) : DEnv → M Bool := fun ρ n =>
  match f ρ n with
  | some (.bool b, n1) => some (b, n1)
  | _ => none
def dIf {α : Type} (t : DEnv → M Bool) (f g : DEnv → M α) : DEnv → M α := fun ρ n =>
  match t ρ n with
  | some (true, n1) => f ρ n1
  | some (false, n1) => g ρ n1
  | none => none
def dNot (t : DEnv → M Bool) : DEnv → M Bool := fun ρ n =>
  match t ρ n with
  | some (b, n1) => some (!b, n1)
  | none => none
/-- the first that is not true, else the last -/
def dAnd (t u : DEnv → M Bool) : DEnv → M Bool := dIf t u (fun _ n => some (false, n))
def dOr (t u : DEnv → M Bool) : DEnv → M Bool := dIf t (fun _ n => some (true, n)) u
def dB2D (t : DEnv → M Bool) : DEnv → M D := fun ρ n =>
  match t ρ n with
  | some (b, n1) => some (.bool b, n1)
  | none => none
def dNotV (f : DEnv → M D) : DEnv → M D := fun ρ n =>
  match f ρ n with
  | some (.bool b, n1) => some (.bool !b, n1)
  | _ => none
def dAndV (f g : DEnv → M D) : DEnv → M D := fun ρ n =>
  match f ρ n with
  | some (.bool true, n1) => g ρ n1
  | some (.bool false, n1) => some (.bool false, n1)
  | _ => none
def dOrV (f g : DEnv → M D) : DEnv → M D := fun ρ n =>
  match f ρ n with
  | some (.bool true, n1) => some (.bool true, n1)
  | some (.bool false, n1) => g ρ n1
  | _ => none
/-- a op b op' c -/
def dChain (h h' : D → D → Option D) (f g k : DEnv → M D) : DEnv → M D := fun ρ n =>
  match f ρ n with
  | some (x, n1) => match g ρ n1 with
    | some (y, n2) => match h x y with
      | some (.bool true) => match k ρ n2 with
        | some (z, n3) => match h' y z with
          | some u => some (u, n3)
          | none => none
        | none => none
      | some (.bool false) => some (.bool false, n2)
      | _ => none
    | none => none
  | none => none

/-! ### expressions -/
section
variable {X : Cx} {ns : List Int} {c : Md} {W : List Nat} {a b e k : Expr} {es : List Expr} {f g u : DEnv → M D} {pos : Pos}

theorem ed_var {i : Nat} {x : Str} (hN : X.N[i]? = some x) (hv : Vis X.env.scope x) (hi : i ∉ W) (hd : (x == ("__debug__" : Str)) = false := by decide) (hcd : (x == ("__classdict__" : Str)) = false := by decide) : ED X ns c W (.Name x pos) (dVar i) := by
  refine pe_weak (pe_var hN hv hd hcd) fun σ H Q q => ?_
  obtain ⟨Hs0, H0, Hs, ρ, n, d, n', r, e, q⟩ := q
  unfold dVar at e
  split at e
  · rename_i d' hρ
    cases e
    obtain ⟨v, h1, h2⟩ := r.vars i d hρ hi
    exact ⟨v, h1, q v Hs H (ExtP.refl r.sub).ext r.cel h2⟩
  · cases e
theorem ed_const {v : V} {d : D} (h : PE X e (tC v)) (hr : ∀ H, Rp X.K H v d) : ED X ns c W e (dC d) := by
  refine pe_weak h fun σ H Q q => ?_
  obtain ⟨Hs0, H0, Hs, ρ, n, d', n', r, e, q⟩ := q
  cases e
  exact q v Hs H (ExtP.refl r.sub).ext r.cel (.inl (hr _))
theorem ed_int {i j} : ED X ns c W (.Constant (.int i) j pos) (dC (.int i)) := ed_const pe_int fun _ => .int i
theorem ed_bl {i j} : ED X ns c W (.Constant (.bool i) j pos) (dC (.bool i)) := ed_const pe_bl fun _ => .bl i
theorem ed_non {j} : ED X ns c W (.Constant .none j pos) (dC .none) := ed_const pe_non fun _ => .non
theorem ed_str {i j} : ED X ns c W (.Constant (.str i) j pos) (dC (.str i)) := ed_const pe_str fun _ => .str i

/-- a two-place rule by data -/
def R2D (K : PySem.W.Frag) (r : R2) (h : D → D → Option D) : Prop := ∀ ns c Hs H x y d e z Q, Same Hs H → SRep K ns c Hs x d → SRep K ns c Hs y e → h d e = some z →
  (∀ v Hs' H', ExtP Hs H Hs' H' → Rp K Hs' v z → Q v H') → r x y H Q
theorem dBin_some {h : D → D → Option D} {ρ : DEnv} {n n' : Nat} {z : D} (e : dBin h f g ρ n = some (z, n')) : ∃ x n1 y, f ρ n = some (x, n1) ∧ g ρ n1 = some (y, n') ∧ h x y = some z := by
  unfold dBin at e
  split at e
  · rename_i x n1 h1
    split at e
    · rename_i y n2 h2
      split at e
      · rename_i z' h3
        cases e
        exact ⟨x, n1, y, h1, h2, h3⟩
      · cases e
    · cases e
  · cases e
theorem tBin {r : R2} {h : D → D → Option D} (hr : R2D X.K r h) (σ : L2.St) (H : Hp) (Q : VK) (q : tD X.K ns c W (dBin h f g) σ H Q) : tOp r (tD X.K ns c W f) (tD X.K ns c W g) σ H Q := by
  obtain ⟨Hs0, H0, Hs, ρ, n, z, n', R, e, q⟩ := q
  obtain ⟨x, n1, y, h1, h2, h3⟩ := dBin_some e
  refine ⟨Hs0, H0, Hs, ρ, n, x, n1, R, h1, fun v Hs1 H1 e1 c1 r1 => ?_⟩
  have R1 := R.step e1 c1
  refine ⟨Hs0, H0, Hs1, ρ, n1, y, n', R1, h2, fun u Hs2 H2 e2 c2 r2 => ?_⟩
  have R2 := R1.step e2 c2
  refine hr ns c Hs2 H2 v u x y z Q R2.sub (r1.same e2.st) r2 h3 fun w Hs3 H3 e3 r3 => ?_
  exact q w Hs3 H3 ((e1.trans c1 e2).trans c2 e3.ext) (e3.cel c2) (.inl r3)
theorem ed_op {op : Operator} {r : R2} {h : D → D → Option D} (ho : OpR X (binaryOp op) r) (hr : R2D X.K r h) (ha : ED X ns c W a f) (hb : ED X ns c W b g) : ED X ns c W (.BinOp a op b pos) (dBin h f g) :=
  pe_weak (pe_op ho ha hb) (tBin hr)
theorem ed_cmp {op : CmpOp} {r : R2} {h : D → D → Option D} (ho : OpR X (compareOp op) r) (hr : R2D X.K r h) (ha : ED X ns c W a f) (hb : ED X ns c W b g) (hm : behindInMarks op b = false) : ED X ns c W (.Compare a [op] [b] pos) (dBin h f g) :=
  pe_weak (pe_cmpR ho ha hb hm) (tBin hr)
theorem ed_ix {r : R2} {h : D → D → Option D} (ho : IxR X r) (hr : R2D X.K r h) (ha : ED X ns c W a f) (hb : ED X ns c W b g) (hs : PlainIx b) : ED X ns c W (.Subscript a b pos) (dBin h f g) :=
  pe_weak (pe_ix ho ha hb hs) (tBin hr)
/-- tests -/
theorem dTest_some {ρ : DEnv} {n n' : Nat} {z : Bool} (e : dTest f ρ n = some (z, n')) : f ρ n = some (.bool z, n') := by
  unfold dTest at e
  split at e
  · rename_i b n1 h1
    cases e
    exact h1
  · cases e
theorem Rp.bool {K : PySem.W.Frag} {H : Hp} {v : V} {b : Bool} (h : Rp K H v (.bool b)) : v = .bl b := by cases h; rfl
theorem SRep.bool {K : PySem.W.Frag} {ns : List Int} {c : Md} {H : Hp} {v : V} {b : Bool} (h : SRep K ns c H v (.bool b)) : v = .bl b := by
  rcases h with h | ⟨h, _⟩ | ⟨h, _⟩ | ⟨_, _, _, _, _, _, _, _, _, _, h⟩ | ⟨_, _, _, _, _, _, h⟩
  · exact h.bool
  · cases h
  · cases h
  · cases h
  · cases h
theorem tTest' (σ : L2.St) (H : Hp) (Q : Bool → Hp → Prop) (q : tDT X.K ns c W (dTest f) σ H Q) : tTest (tD X.K ns c W f) σ H Q := by
  obtain ⟨Hs0, H0, Hs, ρ, n, z, n', R, e, q⟩ := q
  exact ⟨Hs0, H0, Hs, ρ, n, _, n', R, dTest_some e, fun v Hs' H' e1 c1 r1 => ⟨z, r1.bool, q Hs' H' e1 c1⟩⟩
theorem td_cmp {op : CmpOp} {r : R2} {h : D → D → Option D} (ho : OpR X (compareOp op) r) (hr : R2D X.K r h) (ha : ED X ns c W a f) (hb : ED X ns c W b g) (hm : behindInMarks op b = false) : TD X ns c W (.Compare a [op] [b] pos) (dTest (dBin h f g)) := by
  refine pt_weak (pt_cmpR ho ha hb hm) fun σ H Q q => ?_
  obtain ⟨z, n, q⟩ := tTest' σ H Q q
  exact tBin hr _ _ _ ⟨z, n, q⟩
/-- any expression whose value is a bool, as a test -/
theorem td_val (he : ED X ns c W e f) (hx : ∀ whole, isTrue e X.env whole = (do let v ← whole; standAt e.pos; holding [v] (truthy v)) := by intro _; rfl) : TD X ns c W e (dTest f) :=
  pt_weak (pt_val he hx) fun σ H Q q => tTest' σ H Q q
end
end DL
/-! DLb: operators, comparisons, displays, calls, subscripts, slices, tests by data. -/
namespace DL
open PySem PySem.Spec PyProof.Rows L2
abbrev LIM : Nat := 16777216
theorem LIM_eq : sizeLine = LIM := sizeLine_eq

section
variable {K : PySem.W.Frag} {ns : List Int} {c : Md} {H Hs : Hp} {v : V}
theorem SRep.rp {d : D} (h : SRep K ns c H v d) (hd : ∀ kvs, d ≠ .dict kvs) : Rp K H v d := by
  rcases h with h | ⟨h, _⟩ | ⟨h, _⟩ | ⟨_, _, _, _, _, _, _, _, _, _, h⟩ | ⟨_, _, _, _, _, _, h⟩
  · exact h
  · exact absurd h (hd _)
  · exact absurd h (hd _)
  · exact absurd h (hd _)
  · exact absurd h (hd _)
theorem SRep.int {i : Int} (h : SRep K ns c H v (.int i)) : v = .int i := by cases h.rp (fun _ => by intro z; cases z); rfl
theorem SRep.str {i : Str} (h : SRep K ns c H v (.str i)) : v = .str i := by cases h.rp (fun _ => by intro z; cases z); rfl
theorem SRep.non (h : SRep K ns c H v .none) : v = .non := by cases h.rp (fun _ => by intro z; cases z); rfl
theorem SRep.list {ds : List D} (h : SRep K ns c H v (.list ds)) : ∃ a xs, v = .ref a ∧ H a = some (.lst xs) ∧ RpAll K H xs ds := by
  cases h.rp (fun _ => by intro z; cases z) with
  | lst h1 h2 => exact ⟨_, _, rfl, h1, h2⟩
theorem SRep.tuple {ds : List D} (h : SRep K ns c H v (.tuple ds)) : ∃ a xs, v = .ref a ∧ SqT K H a xs ∧ RpAll K H xs ds := by
  cases h.rp (fun _ => by intro z; cases z) with
  | tup h1 h2 => exact ⟨_, _, rfl, h1, h2⟩
end

/-! ### data operators -/
def hSub : D → D → Option D
  | .int i, .int j => some (.int (i - j))
  | .bool a, .bool b => some (.int ((if a then 1 else 0) - (if b then 1 else 0)))
  | _, _ => none
def hSubI : D → D → Option D
  | .int i, .int j => some (.int (i - j))
  | _, _ => none
def hAdd : D → D → Option D
  | .int i, .int j => some (.int (i + j))
  | .tuple xs, .tuple ys => if xs.length + ys.length ≤ LIM then some (.tuple (xs ++ ys)) else none
  | .list xs, .list ys => if xs.length + ys.length ≤ LIM then some (.list (xs ++ ys)) else none
  | _, _ => none
def hMulI : D → D → Option D
  | .int i, .int j => if ((-(2 ^ 64) < i ∧ i < 2 ^ 64) ∨ (-(2 ^ 64) < j ∧ j < 2 ^ 64)) ∨ i.natAbs.log2 + j.natAbs.log2 < 1000000 then some (.int (i * j)) else none
  | .list xs, .int k => if -(2 ^ 63) ≤ k ∧ k < 2 ^ 63 ∧ xs.length * k.toNat ≤ LIM then some (.list (List.replicate k.toNat xs).flatten) else none
  | _, _ => none
def hFdiv : D → D → Option D
  | .int i, .int j => if (0 < j ∧ j < 1073741824) ∨ (0 < j ∧ j.natAbs.log2 < 9000) then some (.int (i / j)) else none
  | _, _ => none
def hMod : D → D → Option D
  | .int i, .int j => if 0 < j then some (.int (i % j)) else none
  | _, _ => none
def hPow : D → D → Option D
  | .int i, .int j => if 0 ≤ j ∧ j ≤ 1000000 ∧ i.natAbs < 2 ^ 64 then some (.int (i ^ j.toNat)) else none
  | _, _ => none
def hLt : D → D → Option D
  | .int i, .int j => some (.bool (decide (i < j)))
  | _, _ => none
def hLe : D → D → Option D
  | .int i, .int j => some (.bool (decide (i ≤ j)))
  | _, _ => none
def hGt : D → D → Option D
  | .int i, .int j => some (.bool (decide (j < i)))
  | _, _ => none
def hGe : D → D → Option D
  | .int i, .int j => some (.bool (decide (j ≤ i)))
  | _, _ => none
def noDict : D → Bool
  | .dict _ => false
  | _ => true
def hEqD (x y : D) : Option D := if (SeqAt.shaped x && SeqAt.shaped y && noDict x && noDict y) = true then some (.bool (PyData.eqv x y)) else none
def hNeD (x y : D) : Option D := if (SeqAt.shaped x && SeqAt.shaped y && noDict x && noDict y) = true then some (.bool (!PyData.eqv x y)) else none
def isNon : D → Bool
  | .none => true
  | _ => false
def hIsB : D → D → Option D
  | .bool i, .bool j => some (.bool (decide (i = j)))
  | x, .none => if noDict x = true then some (.bool (isNon x)) else none
  | _, _ => none
def hIsNotB : D → D → Option D
  | .bool i, .bool j => some (.bool (!decide (i = j)))
  | x, .none => if noDict x = true then some (.bool (!isNon x)) else none
  | _, _ => none
def hIx : D → D → Option D
  | .list xs, .int i => atI xs i
  | .tuple xs, .int i => atI xs i
  | _, _ => none

theorem Option.some_of_if {α : Type} {p : Prop} [Decidable p] {a z : α} (h : (if p then some a else none) = some z) : p ∧ a = z := by
  by_cases q : p
  · rw [if_pos q] at h; exact ⟨q, Option.some.inj h⟩
  · rw [if_neg q] at h; cases h
theorem noDict_of {x : D} (h : noDict x = true) : ∀ k, x ≠ .dict k := fun k e => by subst e; cases h

section
variable {X : Cx} {K : PySem.W.Frag}
/-- a rule on ints -/
theorem r2_int {r : R2} {h : D → D → Option D} (hi : ∀ x y z, h x y = some z → ∃ i j, x = .int i ∧ y = .int j)
    (hr : ∀ i j z H Q, h (.int i) (.int j) = some z → (∀ v, (∀ K H, Rp K H v z) → Q v H) → r (.int i) (.int j) H Q) : R2D K r h := by
  intro ns c Hs H x y d e z Q s rx ry hz q
  obtain ⟨i, j, rfl, rfl⟩ := hi _ _ _ hz
  rw [rx.int, ry.int]
  exact hr i j z H Q hz fun v rv => q v Hs H (ExtP.refl s) (rv _ _)
theorem r2_sub : R2D K (rI0 fun i j => .int (i - j)) hSubI :=
  r2_int (fun x y z h => by cases x <;> cases y <;> first | exact ⟨_, _, rfl, rfl⟩ | cases h) fun i j z H Q h q => by cases h; exact ⟨i, j, rfl, rfl, q _ fun _ _ => .int _⟩
theorem r2_fdiv : R2D K (fun x y H Q => rI CDiv (fun i j => .int (i / j)) x y H Q ∨ rI CDivW (fun i j => .int (i / j)) x y H Q) hFdiv :=
  r2_int (fun x y z h => by cases x <;> cases y <;> first | exact ⟨_, _, rfl, rfl⟩ | cases h) fun i j z H Q h q => by
    obtain ⟨p, rfl⟩ := Option.some_of_if h
    rcases p with p | p
    · exact .inl ⟨i, j, rfl, rfl, p, q _ fun _ _ => .int _⟩
    · exact .inr ⟨i, j, rfl, rfl, p, q _ fun _ _ => .int _⟩
theorem r2_mod : R2D K (rI (fun _ j => 0 < j) fun i j => .int (i % j)) hMod :=
  r2_int (fun x y z h => by cases x <;> cases y <;> first | exact ⟨_, _, rfl, rfl⟩ | cases h) fun i j z H Q h q => by
    obtain ⟨p, rfl⟩ := Option.some_of_if h
    exact ⟨i, j, rfl, rfl, p, q _ fun _ _ => .int _⟩
theorem r2_pow : R2D K (rI CPow fun i j => .int (i ^ j.toNat)) hPow :=
  r2_int (fun x y z h => by cases x <;> cases y <;> first | exact ⟨_, _, rfl, rfl⟩ | cases h) fun i j z H Q h q => by
    obtain ⟨p, rfl⟩ := Option.some_of_if h
    exact ⟨i, j, rfl, rfl, p, q _ fun _ _ => .int _⟩
theorem r2_lt : R2D K (rI0 fun i j => .bl (decide (i < j))) hLt :=
  r2_int (fun x y z h => by cases x <;> cases y <;> first | exact ⟨_, _, rfl, rfl⟩ | cases h) fun i j z H Q h q => by cases h; exact ⟨i, j, rfl, rfl, q _ fun _ _ => .bl _⟩
theorem r2_le : R2D K (rI0 fun i j => .bl (decide (i ≤ j))) hLe :=
  r2_int (fun x y z h => by cases x <;> cases y <;> first | exact ⟨_, _, rfl, rfl⟩ | cases h) fun i j z H Q h q => by cases h; exact ⟨i, j, rfl, rfl, q _ fun _ _ => .bl _⟩
theorem r2_gt : R2D K (rI0 fun i j => .bl (decide (j < i))) hGt :=
  r2_int (fun x y z h => by cases x <;> cases y <;> first | exact ⟨_, _, rfl, rfl⟩ | cases h) fun i j z H Q h q => by cases h; exact ⟨i, j, rfl, rfl, q _ fun _ _ => .bl _⟩
theorem r2_ge : R2D K (rI0 fun i j => .bl (decide (j ≤ i))) hGe :=
  r2_int (fun x y z h => by cases x <;> cases y <;> first | exact ⟨_, _, rfl, rfl⟩ | cases h) fun i j z H Q h q => by cases h; exact ⟨i, j, rfl, rfl, q _ fun _ _ => .bl _⟩
/-- + -/
def rAddD (K : PySem.W.Frag) : R2 := fun x y H Q => rI0 (fun i j => .int (i + j)) x y H Q ∨ (rCatA K x y H Q ∨ rCat x y H Q)
theorem op_addD : OpR X (binaryOp .Add) (rAddD X.K) := OpR.or op_add (OpR.or op_catA op_cat)
theorem r2_add : R2D K (rAddD K) hAdd := by
  intro ns c Hs H x y d e z Q s rx ry hz q
  unfold hAdd at hz
  split at hz
  · cases hz
    rw [rx.int, ry.int]
    exact .inl ⟨_, _, rfl, rfl, q _ Hs H (ExtP.refl s) (.int _)⟩
  · obtain ⟨p, rfl⟩ := Option.some_of_if hz
    obtain ⟨a, xs, rfl, h1, r1⟩ := rx.tuple
    obtain ⟨b, ys, rfl, h2, r2⟩ := ry.tuple
    refine .inr (.inl ⟨a, b, xs, ys, rfl, rfl, Same.seqT s h1, Same.seqT s h2, ?_, fun e1 => ?_, fun e1 e2 => ?_, fun e1 e2 t ht => ?_⟩)
    · rw [r1.length, r2.length, LIM_eq]; exact p
    · subst e1
      cases r1
      exact q _ Hs H (ExtP.refl s) (.tup h2 r2)
    · subst e2
      cases r2
      rw [List.append_nil] at q
      exact q _ Hs H (ExtP.refl s) (.tup h1 r1)
    · have e3 := ExtP.new1 (o := .tup (xs ++ ys)) s ht
      exact q _ _ _ e3 (.tup (SqT.of upd_same) (RpAll.same e3.st _ _ (r1.append r2)))
  · obtain ⟨p, rfl⟩ := Option.some_of_if hz
    obtain ⟨a, xs, rfl, h1, r1⟩ := rx.list
    obtain ⟨b, ys, rfl, h2, r2⟩ := ry.list
    refine .inr (.inr ⟨a, b, xs, ys, rfl, rfl, s _ _ h1, s _ _ h2, ?_, fun t ht => ?_⟩)
    · rw [r1.length, r2.length, LIM_eq]; exact p
    · have e3 := ExtP.new1 (o := .lst (xs ++ ys)) s ht
      exact q _ _ _ e3 (.lst upd_same (RpAll.same e3.st _ _ (r1.append r2)))
  · cases hz
/-- * -/
def rMulD : R2 := fun x y H Q => rI CMul (fun i j => .int (i * j)) x y H Q ∨ (rI CMulW (fun i j => .int (i * j)) x y H Q ∨ rRep x y H Q)
theorem op_mulD : OpR X (binaryOp .Mult) rMulD := OpR.or op_mul (OpR.or op_mulW op_rep)
theorem r2_mul : R2D K rMulD hMulI := by
  intro ns c Hs H x y d e z Q s rx ry hz q
  unfold hMulI at hz
  split at hz
  · obtain ⟨p, rfl⟩ := Option.some_of_if hz
    rw [rx.int, ry.int]
    rcases p with p | p
    · exact .inl ⟨_, _, rfl, rfl, p, q _ Hs H (ExtP.refl s) (.int _)⟩
    · exact .inr (.inl ⟨_, _, rfl, rfl, p, q _ Hs H (ExtP.refl s) (.int _)⟩)
  · obtain ⟨p, rfl⟩ := Option.some_of_if hz
    obtain ⟨a, xs, rfl, h1, r1⟩ := rx.list
    rw [ry.int]
    rename_i k0
    refine .inr (.inr ⟨a, k0, xs, rfl, rfl, s _ _ h1, p.1, p.2.1, ?_, fun t ht => ?_⟩)
    · rw [r1.length, LIM_eq]; exact p.2.2
    · have e3 := ExtP.new1 (o := .lst (List.replicate k0.toNat xs).flatten) s ht
      exact q _ _ _ e3 (.lst upd_same (RpAll.same e3.st _ _ (r1.rep _)))
  · cases hz
theorem r2_eq : R2D K (rEqD K) hEqD := by
  intro ns c Hs H x y d e z Q s rx ry hz q
  obtain ⟨p, rfl⟩ := Option.some_of_if hz
  simp only [Bool.and_eq_true] at p
  obtain ⟨⟨⟨p1, p2⟩, p3⟩, p4⟩ := p
  exact ⟨d, e, (Rp.same s _ _ (rx.rp (noDict_of p3))).dp, (Rp.same s _ _ (ry.rp (noDict_of p4))).dp, p1, p2, q _ Hs H (ExtP.refl s) (.bl _)⟩
theorem r2_ne : R2D K (rNeD K) hNeD := by
  intro ns c Hs H x y d e z Q s rx ry hz q
  obtain ⟨p, rfl⟩ := Option.some_of_if hz
  simp only [Bool.and_eq_true] at p
  obtain ⟨⟨⟨p1, p2⟩, p3⟩, p4⟩ := p
  exact ⟨d, e, (Rp.same s _ _ (rx.rp (noDict_of p3))).dp, (Rp.same s _ _ (ry.rp (noDict_of p4))).dp, p1, p2, q _ Hs H (ExtP.refl s) (.bl _)⟩
def rIsD : R2 := fun x y H Q => rIsB x y H Q ∨ (y = .non ∧ Q (.bl (decide (x = .non))) H)
def rIsNotD : R2 := fun x y H Q => rNotB x y H Q ∨ (y = .non ∧ Q (.bl (!decide (x = .non))) H)
theorem op_isD : OpR X (compareOp .Is) rIsD := OpR.or op_isBl op_isN
theorem op_isNotD : OpR X (compareOp .IsNot) rIsNotD := OpR.or op_notBl op_notN
theorem Rp.non_iff {H : Hp} {v : V} : ∀ {d : D}, Rp K H v d → isNon d = decide (v = .non)
  | .none, h => by cases h; rfl
  | .bool _, h => by cases h; rfl
  | .int _, h => by cases h; rfl
  | .str _, h => by cases h; rfl
  | .list _, h => by cases h; rfl
  | .tuple _, h => by cases h; rfl
  | .dict _, h => by cases h
theorem r2_is : R2D K rIsD hIsB := by
  intro ns c Hs H x y d e z Q s rx ry hz q
  unfold hIsB at hz
  split at hz
  · cases hz
    rw [rx.bool, ry.bool]
    exact .inl ⟨_, _, rfl, rfl, q _ Hs H (ExtP.refl s) (.bl _)⟩
  · obtain ⟨p, rfl⟩ := Option.some_of_if hz
    refine .inr ⟨ry.non, q _ Hs H (ExtP.refl s) ?_⟩
    rw [← (rx.rp (noDict_of p)).non_iff]
    exact .bl _
  · cases hz
theorem r2_isNot : R2D K rIsNotD hIsNotB := by
  intro ns c Hs H x y d e z Q s rx ry hz q
  unfold hIsNotB at hz
  split at hz
  · cases hz
    rw [rx.bool, ry.bool]
    exact .inl ⟨_, _, rfl, rfl, q _ Hs H (ExtP.refl s) (.bl _)⟩
  · obtain ⟨p, rfl⟩ := Option.some_of_if hz
    refine .inr ⟨ry.non, q _ Hs H (ExtP.refl s) ?_⟩
    rw [← (rx.rp (noDict_of p)).non_iff]
    exact .bl _
  · cases hz
theorem atI_rp {H : Hp} {xs : List V} {ds : List D} {i : Int} {d : D} (r : RpAll K H xs ds) (h : atI ds i = some d) : ∃ v, atI xs i = some v ∧ Rp K H v d := by
  unfold atI at h ⊢
  rw [r.length]
  cases e : ixN ds.length i with
  | none => rw [e] at h; cases h
  | some j =>
    rw [e] at h
    exact r.getD h
theorem r2_ix : R2D K (rIx K) hIx := by
  intro ns c Hs H x y d e z Q s rx ry hz q
  unfold hIx at hz
  split at hz
  · obtain ⟨a, xs, rfl, h1, r1⟩ := rx.list
    rw [ry.int]
    obtain ⟨v, hv, rv⟩ := atI_rp r1 hz
    exact .inl ⟨a, xs, _, v, rfl, rfl, SqL.of (s _ _ h1), hv, q _ Hs H (ExtP.refl s) rv⟩
  · obtain ⟨a, xs, rfl, h1, r1⟩ := rx.tuple
    rw [ry.int]
    obtain ⟨v, hv, rv⟩ := atI_rp r1 hz
    exact .inr (.inl ⟨a, xs, _, v, rfl, rfl, Same.seqT s h1, hv, q _ Hs H (ExtP.refl s) rv⟩)
  · cases hz
end

section
variable {X : Cx} {ns : List Int} {c : Md} {W : List Nat} {a b e k : Expr} {es : List Expr} {f g u : DEnv → M D} {pos : Pos}
theorem ed_add (ha : ED X ns c W a f) (hb : ED X ns c W b g) : ED X ns c W (.BinOp a .Add b pos) (dBin hAdd f g) := ed_op op_addD r2_add ha hb
theorem ed_sub (ha : ED X ns c W a f) (hb : ED X ns c W b g) : ED X ns c W (.BinOp a .Sub b pos) (dBin hSubI f g) := ed_op op_sub r2_sub ha hb
theorem ed_mul (ha : ED X ns c W a f) (hb : ED X ns c W b g) : ED X ns c W (.BinOp a .Mult b pos) (dBin hMulI f g) := ed_op op_mulD r2_mul ha hb
theorem ed_fdiv (ha : ED X ns c W a f) (hb : ED X ns c W b g) : ED X ns c W (.BinOp a .FloorDiv b pos) (dBin hFdiv f g) := ed_op (OpR.or op_fdiv op_fdivW) r2_fdiv ha hb
theorem ed_mod (ha : ED X ns c W a f) (hb : ED X ns c W b g) : ED X ns c W (.BinOp a .Mod b pos) (dBin hMod f g) := ed_op op_mod r2_mod ha hb
theorem ed_pow (ha : ED X ns c W a f) (hb : ED X ns c W b g) : ED X ns c W (.BinOp a .Pow b pos) (dBin hPow f g) := ed_op op_pow r2_pow ha hb
theorem ed_item (ha : ED X ns c W a f) (hb : ED X ns c W b g) (hs : PlainIx b := by exact fun _ _ => rfl) : ED X ns c W (.Subscript a b pos) (dBin hIx f g) := ed_ix ix_seq r2_ix ha hb hs

/-- the comparisons, by operator -/
def CmpD (X : Cx) (op : CmpOp) (h : D → D → Option D) : Prop := ∃ r : R2, OpR X (compareOp op) r ∧ R2D X.K r h
theorem cd_lt : CmpD X .Lt hLt := ⟨_, op_lt, r2_lt⟩
theorem cd_le : CmpD X .LtE hLe := ⟨_, op_le, r2_le⟩
theorem cd_gt : CmpD X .Gt hGt := ⟨_, op_gt, r2_gt⟩
theorem cd_ge : CmpD X .GtE hGe := ⟨_, op_ge, r2_ge⟩
theorem cd_eq (hu : X.A.units + 64 < cLine) : CmpD X .Eq hEqD := ⟨_, op_eqD hu, r2_eq⟩
theorem cd_ne (hu : X.A.units + 64 < cLine) : CmpD X .NotEq hNeD := ⟨_, op_neD hu, r2_ne⟩
theorem cd_is : CmpD X .Is hIsB := ⟨_, op_isD, r2_is⟩
theorem cd_isNot : CmpD X .IsNot hIsNotB := ⟨_, op_isNotD, r2_isNot⟩
theorem ed_cm {op : CmpOp} {h : D → D → Option D} (hc : CmpD X op h) (ha : ED X ns c W a f) (hb : ED X ns c W b g) (hm : behindInMarks op b = false := by exact nomark _) : ED X ns c W (.Compare a [op] [b] pos) (dBin h f g) := let ⟨_, h1, h2⟩ := hc; ed_cmp h1 h2 ha hb hm
theorem td_cm {op : CmpOp} {h : D → D → Option D} (hc : CmpD X op h) (ha : ED X ns c W a f) (hb : ED X ns c W b g) (hm : behindInMarks op b = false := by exact nomark _) : TD X ns c W (.Compare a [op] [b] pos) (dTest (dBin h f g)) := let ⟨_, h1, h2⟩ := hc; td_cmp h1 h2 ha hb hm

theorem dChain_some {h h' : D → D → Option D} {ρ : DEnv} {n n' : Nat} {z : D} (e : dChain h h' f g u ρ n = some (z, n')) :
    ∃ x n1 y n2, f ρ n = some (x, n1) ∧ g ρ n1 = some (y, n2) ∧ ((∃ y2, h x y = some (.bool true) ∧ u ρ n2 = some (y2, n') ∧ h' y y2 = some z) ∨ (h x y = some (.bool false) ∧ z = .bool false ∧ n2 = n')) := by
  unfold dChain at e
  split at e
  · rename_i x n1 h1
    split at e
    · rename_i y n2 h2
      split at e
      · rename_i h3
        split at e
        · rename_i z3 n3 h4
          split at e
          · rename_i u3 h5
            cases e
            exact ⟨x, n1, y, n2, h1, h2, .inl ⟨z3, h3, h4, h5⟩⟩
          · cases e
        · cases e
      · rename_i h3
        cases e
        exact ⟨x, n1, y, _, h1, h2, .inr ⟨h3, rfl, rfl⟩⟩
      · cases e
    · cases e
  · cases e
theorem tChainD {r r' : R2} {h h' : D → D → Option D} (hr : R2D X.K r h) (hr' : R2D X.K r' h') (σ : L2.St) (H : Hp) (Q : VK) (q : tD X.K ns c W (dChain h h' f g u) σ H Q) : tChain r r' (tD X.K ns c W f) (tD X.K ns c W g) (tD X.K ns c W u) σ H Q := by
  obtain ⟨Hs0, H0, Hs, ρ, n, z, n', R, e, q⟩ := q
  obtain ⟨x, n1, y, n2, h1, h2, h3⟩ := dChain_some e
  refine ⟨Hs0, H0, Hs, ρ, n, x, n1, R, h1, fun v Hs1 H1 e1 c1 r1 => ?_⟩
  have R1 := R.step e1 c1
  refine ⟨Hs0, H0, Hs1, ρ, n1, y, n2, R1, h2, fun w Hs2 H2 e2 c2 r2 => ?_⟩
  have R2 := R1.step e2 c2
  rcases h3 with ⟨y2, t1, t2, t3⟩ | ⟨t1, rfl, rfl⟩
  · refine hr ns c Hs2 H2 v w x y _ _ R2.sub (r1.same e2.st) r2 t1 fun b Hs3 H3 e3 r3 => ⟨true, r3.bool, ?_⟩
    rw [if_pos rfl]
    have R3 := R2.stepP e3
    refine ⟨Hs0, H0, Hs3, ρ, n2, y2, n', R3, t2, fun w2 Hs4 H4 e4 c4 r4 => ?_⟩
    have R4 := R3.step e4 c4
    refine hr' ns c Hs4 H4 w w2 y y2 z Q R4.sub (r2.same (Same.trans' e3.st e4.st)) r4 t3 fun b5 Hs5 H5 e5 r5 => ?_
    exact q b5 Hs5 H5 ((((e1.trans c1 e2).trans c2 e3.ext).trans (e3.cel c2) e4).trans c4 e5.ext) (e5.cel c4) (.inl r5)
  · refine hr ns c Hs2 H2 v w x y _ _ R2.sub (r1.same e2.st) r2 t1 fun b Hs3 H3 e3 r3 => ⟨false, r3.bool, ?_⟩
    rw [if_neg Bool.false_ne_true]
    exact q _ Hs3 H3 ((e1.trans c1 e2).trans c2 e3.ext) (e3.cel c2) (.inl (.bl _))
theorem ed_chain {op op' : CmpOp} {h h' : D → D → Option D} (hc : CmpD X op h) (hc' : CmpD X op' h') (ha : ED X ns c W a f) (hb : ED X ns c W b g) (hk : ED X ns c W k u)
    (hm : lastMarks [op, op'] [b, k] = false := by with_unfolding_all rfl) : ED X ns c W (.Compare a [op, op'] [b, k] pos) (dChain h h' f g u) :=
  let ⟨_, h1, h2⟩ := hc; let ⟨_, h3, h4⟩ := hc'; pe_weak (pe_chain h1 h3 ha hb hk hm) (tChainD h2 h4)
theorem td_chain {op op' : CmpOp} {h h' : D → D → Option D} (hc : CmpD X op h) (hc' : CmpD X op' h') (ha : ED X ns c W a f) (hb : ED X ns c W b g) (hk : ED X ns c W k u)
    (hm : lastMarks [op, op'] [b, k] = false := by with_unfolding_all rfl) : TD X ns c W (.Compare a [op, op'] [b, k] pos) (dTest (dChain h h' f g u)) := by
  obtain ⟨_, h1, h2⟩ := hc
  obtain ⟨_, h3, h4⟩ := hc'
  refine pt_weak (pt_chain h1 h3 ha hb hk hm) fun σ H Q q => ?_
  have := tTest' σ H Q q
  exact tChainD h2 h4 _ _ _ this

/-! ### and, or, not, if -/
variable {t t' : DEnv → M Bool} {rest : List Expr}
abbrev WD (X : Cx) (ns : List Int) (c : Md) (W : List Nat) (e : Expr) (f : DEnv → M Bool) : Prop := PW X e (tDT X.K ns c W f)
theorem td_pw (h : WD X ns c W e t) : TD X ns c W e t := h.pt
theorem td_not (ha : TD X ns c W a t) : TD X ns c W (.UnaryOp .Not a pos) (dNot t) := by
  refine pt_weak (pt_not ha) fun σ H Q q => ?_
  obtain ⟨Hs0, H0, Hs, ρ, n, z, n', R, e, q⟩ := q
  unfold dNot at e
  split at e
  · rename_i b n1 h1
    cases e
    exact ⟨Hs0, H0, Hs, ρ, n, b, _, R, h1, fun Hs' H' e1 c1 => q Hs' H' e1 c1⟩
  · cases e
theorem dIf_some {α : Type} {F G : DEnv → M α} {ρ : DEnv} {n n' : Nat} {z : α} (e : dIf t F G ρ n = some (z, n')) : ∃ b n1, t ρ n = some (b, n1) ∧ ((b = true ∧ F ρ n1 = some (z, n')) ∨ (b = false ∧ G ρ n1 = some (z, n'))) := by
  unfold dIf at e
  split at e
  · rename_i n1 h1
    exact ⟨true, n1, h1, .inl ⟨rfl, e⟩⟩
  · rename_i n1 h1
    exact ⟨false, n1, h1, .inr ⟨rfl, e⟩⟩
  · cases e
theorem wd_and1 (ha : TD X ns c W a t) : WD X ns c W (.BoolOp .And [a] pos) t := pw_and1 ha
theorem wd_or1 (ha : TD X ns c W a t) : WD X ns c W (.BoolOp .Or [a] pos) t := pw_or1 ha
theorem wd_and (ha : TD X ns c W a t) (hb : WD X ns c W (.BoolOp .And (b :: rest) pos) t') : WD X ns c W (.BoolOp .And (a :: b :: rest) pos) (dAnd t t') := by
  refine pw_weak (pw_and ha hb) fun σ H Q q => ?_
  obtain ⟨Hs0, H0, Hs, ρ, n, z, n', R, e, q⟩ := q
  obtain ⟨b, n1, h1, h2⟩ := dIf_some e
  refine ⟨Hs0, H0, Hs, ρ, n, b, n1, R, h1, fun Hs1 H1 e1 c1 => ?_⟩
  rcases h2 with ⟨rfl, h2⟩ | ⟨rfl, h2⟩
  · rw [if_pos rfl]
    exact ⟨Hs0, H0, Hs1, ρ, n1, z, n', R.step e1 c1, h2, fun Hs2 H2 e2 c2 => q Hs2 H2 (e1.trans c1 e2) c2⟩
  · rw [if_neg Bool.false_ne_true]
    cases h2
    exact q Hs1 H1 e1 c1
theorem wd_or (ha : TD X ns c W a t) (hb : WD X ns c W (.BoolOp .Or (b :: rest) pos) t') : WD X ns c W (.BoolOp .Or (a :: b :: rest) pos) (dOr t t') := by
  refine pw_weak (pw_or ha hb) fun σ H Q q => ?_
  obtain ⟨Hs0, H0, Hs, ρ, n, z, n', R, e, q⟩ := q
  obtain ⟨b, n1, h1, h2⟩ := dIf_some e
  refine ⟨Hs0, H0, Hs, ρ, n, b, n1, R, h1, fun Hs1 H1 e1 c1 => ?_⟩
  rcases h2 with ⟨rfl, h2⟩ | ⟨rfl, h2⟩
  · rw [if_pos rfl]
    cases h2
    exact q Hs1 H1 e1 c1
  · rw [if_neg Bool.false_ne_true]
    exact ⟨Hs0, H0, Hs1, ρ, n1, z, n', R.step e1 c1, h2, fun Hs2 H2 e2 c2 => q Hs2 H2 (e1.trans c1 e2) c2⟩
theorem ed_if (ht : TD X ns c W k t) (ha : ED X ns c W a f) (hb : ED X ns c W b g) : ED X ns c W (.IfExp k a b pos) (dIf t f g) := by
  refine pe_weak (pe_ifExp ht ha hb) fun σ H Q q => ?_
  obtain ⟨Hs0, H0, Hs, ρ, n, z, n', R, e, q⟩ := q
  obtain ⟨b, n1, h1, h2⟩ := dIf_some e
  refine ⟨Hs0, H0, Hs, ρ, n, b, n1, R, h1, fun Hs1 H1 e1 c1 => ?_⟩
  rcases h2 with ⟨rfl, h2⟩ | ⟨rfl, h2⟩
  · rw [if_pos rfl]
    exact ⟨Hs0, H0, Hs1, ρ, n1, z, n', R.step e1 c1, h2, fun v Hs2 H2 e2 c2 r2 => q v Hs2 H2 (e1.trans c1 e2) c2 r2⟩
  · rw [if_neg Bool.false_ne_true]
    exact ⟨Hs0, H0, Hs1, ρ, n1, z, n', R.step e1 c1, h2, fun v Hs2 H2 e2 c2 r2 => q v Hs2 H2 (e1.trans c1 e2) c2 r2⟩
/-- as values -/
theorem ed_not (ha : ED X ns c W a f) : ED X ns c W (.UnaryOp .Not a pos) (dNotV f) := by
  refine pe_weak (pe_not ha) fun σ H Q q => ?_
  obtain ⟨Hs0, H0, Hs, ρ, n, z, n', R, e, q⟩ := q
  unfold dNotV at e
  split at e
  · rename_i b n1 h1
    cases e
    exact ⟨Hs0, H0, Hs, ρ, n, _, _, R, h1, fun v Hs' H' e1 c1 r1 => ⟨b, r1.bool, q _ Hs' H' e1 c1 (.inl (.bl _))⟩⟩
  · cases e
theorem ed_one {op} (h : ED X ns c W a f) : ED X ns c W (.BoolOp op [a] pos) f := pe_one h
theorem ed_and (ha : ED X ns c W a f) (hb : ED X ns c W (.BoolOp .And (b :: rest) pos) g) : ED X ns c W (.BoolOp .And (a :: b :: rest) pos) (dAndV f g) := by
  refine pe_weak (pe_and ha hb) fun σ H Q q => ?_
  obtain ⟨Hs0, H0, Hs, ρ, n, z, n', R, e, q⟩ := q
  unfold dAndV at e
  split at e
  · rename_i n1 h1
    refine ⟨Hs0, H0, Hs, ρ, n, _, _, R, h1, fun v Hs1 H1 e1 c1 r1 => ⟨true, r1.bool, ?_⟩⟩
    rw [if_pos rfl]
    exact ⟨Hs0, H0, Hs1, ρ, n1, z, n', R.step e1 c1, e, fun v Hs2 H2 e2 c2 r2 => q v Hs2 H2 (e1.trans c1 e2) c2 r2⟩
  · rename_i n1 h1
    cases e
    refine ⟨Hs0, H0, Hs, ρ, n, _, _, R, h1, fun v Hs1 H1 e1 c1 r1 => ⟨false, r1.bool, ?_⟩⟩
    rw [if_neg Bool.false_ne_true]
    exact q _ Hs1 H1 e1 c1 (.inl (.bl _))
  · cases e
theorem ed_or (ha : ED X ns c W a f) (hb : ED X ns c W (.BoolOp .Or (b :: rest) pos) g) : ED X ns c W (.BoolOp .Or (a :: b :: rest) pos) (dOrV f g) := by
  refine pe_weak (pe_or ha hb) fun σ H Q q => ?_
  obtain ⟨Hs0, H0, Hs, ρ, n, z, n', R, e, q⟩ := q
  unfold dOrV at e
  split at e
  · rename_i n1 h1
    cases e
    refine ⟨Hs0, H0, Hs, ρ, n, _, _, R, h1, fun v Hs1 H1 e1 c1 r1 => ⟨true, r1.bool, ?_⟩⟩
    rw [if_pos rfl]
    exact q _ Hs1 H1 e1 c1 (.inl (.bl _))
  · rename_i n1 h1
    refine ⟨Hs0, H0, Hs, ρ, n, _, _, R, h1, fun v Hs1 H1 e1 c1 r1 => ⟨false, r1.bool, ?_⟩⟩
    rw [if_neg Bool.false_ne_true]
    exact ⟨Hs0, H0, Hs1, ρ, n1, z, n', R.step e1 c1, e, fun v Hs2 H2 e2 c2 r2 => q v Hs2 H2 (e1.trans c1 e2) c2 r2⟩
  · cases e

/-! ### argument lists, displays -/
theorem ad_nil : AD X ns c W [] (dAs []) := by
  refine pa_weak pa_nil fun σ H Q q => ?_
  obtain ⟨Hs0, H0, Hs, ρ, n, z, n', R, e, q⟩ := q
  unfold dAs at e
  cases e
  exact q [] Hs H (ExtP.refl R.sub).ext R.cel .nil
theorem Paired.mono {α β : Type} {F G : α → β → Prop} (w : ∀ a b, F a b → G a b) : ∀ {l₁ : List α} {l₂ : List β}, Paired F l₁ l₂ → Paired G l₁ l₂
  | _, _, .nil => .nil
  | _, _, .cons r t => .cons (w _ _ r) (Paired.mono w t)
theorem ad_cons {fs : List (DEnv → M D)} (ha : ED X ns c W e f) (hr : AD X ns c W es (dAs fs)) (hs : starEach (e :: es) X.env = (false, eval e X.env) :: starEach es X.env := by rfl) : AD X ns c W (e :: es) (dAs (f :: fs)) := by
  refine pa_weak (pa_cons ha hr hs) fun σ H Q q => ?_
  obtain ⟨Hs0, H0, Hs, ρ, n, z, n', R, e, q⟩ := q
  unfold dAs at e
  split at e
  · rename_i x n1 h1
    split at e
    · rename_i xs n2 h2
      cases e
      refine ⟨Hs0, H0, Hs, ρ, n, _, _, R, h1, fun v Hs1 H1 e1 c1 r1 => ?_⟩
      exact ⟨Hs0, H0, Hs1, ρ, n1, xs, _, R.step e1 c1, h2, fun vs Hs2 H2 e2 c2 r2 => q _ Hs2 H2 (e1.trans c1 e2) c2 (.cons (r1.same e2.st) r2)⟩
    · cases e
  · cases e
def hasDict : List D → Bool
  | [] => false
  | d :: ds => !noDict d || hasDict ds
theorem rpAll_of {K : PySem.W.Frag} {H : Hp} : ∀ {vs : List V} {ds : List D}, hasDict ds = false → Paired (SRep K ns c H) vs ds → RpAll K H vs ds
  | _, _, _, .nil => .nil
  | v :: _, d :: ds, h, .cons r t => by
    unfold hasDict at h
    rw [Bool.or_eq_false_iff, Bool.not_eq_false'] at h
    exact .cons (r.rp (noDict_of h.1)) (rpAll_of h.2 t)
theorem sreps_of {K : PySem.W.Frag} {H : Hp} : ∀ {vs : List V} {ds : List D}, RpAll K H vs ds → Paired (SRep K ns c H) vs ds
  | [], [], _ => .nil
  | _ :: _, _ :: _, .cons r t => .cons (.inl r) (sreps_of t)
def hTup (ds : List D) : Option D := if hasDict ds = false ∧ ds.length ≤ LIM then some (.tuple ds) else none
def hLst (ds : List D) : Option D := if hasDict ds = false ∧ ds.length ≤ LIM then some (.list ds) else none
theorem Paired.len {α β : Type} {F : α → β → Prop} : ∀ {l₁ : List α} {l₂ : List β}, Paired F l₁ l₂ → l₁.length = l₂.length
  | _, _, .nil => rfl
  | _, _, .cons _ t => by rw [List.length_cons, List.length_cons, Paired.len t]
theorem dUnA_some {h : List D → Option D} {A : DEnv → M (List D)} {ρ : DEnv} {n n' : Nat} {z : D} (e : dUnA h A ρ n = some (z, n')) : ∃ x, A ρ n = some (x, n') ∧ h x = some z := by
  unfold dUnA at e
  split at e
  · rename_i x n1 h1
    split at e
    · rename_i z' h2
      cases e
      exact ⟨x, h1, h2⟩
    · cases e
  · cases e
variable {A : DEnv → M (List D)}
theorem ed_tup {x1} (h : AD X ns c W es A) : ED X ns c W (.Tuple es x1 pos) (dUnA hTup A) := by
  refine pe_weak (pe_tup h) fun σ H Q q => ?_
  obtain ⟨Hs0, H0, Hs, ρ, n, z, n', R, e, q⟩ := q
  obtain ⟨ds, h1, h2⟩ := dUnA_some e
  obtain ⟨⟨p1, p2⟩, rfl⟩ := Option.some_of_if h2
  refine ⟨Hs0, H0, Hs, ρ, n, ds, n', R, h1, fun vs Hs1 H1 e1 c1 r1 => ⟨by rw [(Paired.length r1 : _ = _), LIM_eq]; exact p2, fun p hp => ?_⟩⟩
  have R1 := R.step e1 c1
  have e2 := ExtP.new1 (o := .tup vs) R1.sub hp
  exact q _ _ _ (e1.trans c1 e2.ext) (e2.cel c1) (.inl (.tup (SqT.of upd_same) (RpAll.same e2.st _ _ (rpAll_of p1 r1))))
theorem ed_lst (h : AD X ns c W es A) : ED X ns c W (.List es pos) (dUnA hLst A) := by
  refine pe_weak (pe_lst h) fun σ H Q q => ?_
  obtain ⟨Hs0, H0, Hs, ρ, n, z, n', R, e, q⟩ := q
  obtain ⟨ds, h1, h2⟩ := dUnA_some e
  obtain ⟨⟨p1, p2⟩, rfl⟩ := Option.some_of_if h2
  refine ⟨Hs0, H0, Hs, ρ, n, ds, n', R, h1, fun vs Hs1 H1 e1 c1 r1 => ⟨by rw [(Paired.length r1 : _ = _), LIM_eq]; exact p2, fun p hp => ?_⟩⟩
  have R1 := R.step e1 c1
  have e2 := ExtP.new1 (o := .lst vs) R1.sub hp
  exact q _ _ _ (e1.trans c1 e2.ext) (e2.cel c1) (.inl (.lst upd_same (RpAll.same e2.st _ _ (rpAll_of p1 r1))))

/-! ### defs -/
/-- a def's promise by data: ps its number of parameters -/
def spD (K : PySem.W.Frag) (ns : List Int) (ar : Nat) (m : List D → M D) : Sp := fun vs H Q _ => vs.length = ar ∧ ∃ c Hs ds n d n', Same Hs H ∧ Cel c n H ∧ (∀ p, c = some p → Hs p.1 = none) ∧ Paired (SRep K ns c Hs) vs ds ∧ m ds n = some (d, n') ∧
  ∀ v Hs' H', Ext c Hs H Hs' H' → Cel c n' H' → SRep K ns c Hs' v d → Q v H'
theorem dCall_some {m : List D → M D} {ρ : DEnv} {n n' : Nat} {z : D} (e : dCall m A ρ n = some (z, n')) : ∃ x n1, A ρ n = some (x, n1) ∧ m x n1 = some (z, n') := by
  unfold dCall at e
  split at e
  · rename_i x n1 h1
    exact ⟨x, n1, h1, e⟩
  · cases e
theorem tCallD {m : List D → M D} {ar : Nat} {E : XK} {ρ0 : DEnv} (har : ∀ ρ n x n', A ρ n = some (x, n') → x.length = ar) (σ : L2.St) (H : Hp) (Q : VK) (q : tD X.K ns c W (dCall m A) σ H Q) : tCall (spD X.K ns ar m) [] E (tDA X.K ns c W A) σ H Q := by
  obtain ⟨Hs0, H0, Hs, ρ, n, z, n', R, e, q⟩ := q
  obtain ⟨ds, n1, h1, h2⟩ := dCall_some e
  refine ⟨Hs0, H0, Hs, ρ, n, ds, n1, R, h1, fun vs Hs1 H1 e1 c1 r1 => ?_⟩
  have R1 := R.step e1 c1
  show spD X.K ns ar m (vs ++ []) H1 Q E
  rw [List.append_nil]
  exact ⟨by rw [(Paired.length r1 : _ = _)]; exact har _ _ _ _ h1, c, Hs1, ds, n1, z, n', R1.sub, c1, R1.hc, r1, h2, fun v Hs2 H2 e2 c2 r2 => q v Hs2 H2 (e1.trans c1 e2) c2 r2⟩
theorem dAs_len : ∀ {fs : List (DEnv → M D)} {ρ : DEnv} {n n' : Nat} {x : List D}, dAs fs ρ n = some (x, n') → x.length = fs.length
  | [], _, _, _, _, h => by unfold dAs at h; cases h; rfl
  | f :: fs, _, _, _, _, h => by
    unfold dAs at h
    split at h
    · rename_i x1 n1 h1
      split at h
      · rename_i xs n2 h2
        cases h
        rw [List.length_cons, List.length_cons, dAs_len h2]
      · cases h
    · cases h
variable {CX : CXT} {kk : Nat} {fa : Addr} {fd : FuncData} {ps : List Str} {m : List D → M D} {E : XK} {x : Str} {p apos : Pos}
theorem ed_call {fs : List (DEnv → M D)} {ar : Nat} (F : FnOk X.prog X.w X.K X.mg X.base CX kk fa fd ps (spD X.K ns ar m)) (hr : Room kk X.A) (hg : Gl X x) (hm : X.mg x = some (.ref fa)) (hk : PySem.W.keepIn X.K (.ref fa) = true) (hb : Binds X.K fd ps []) (hx : Passes CX X E)
    (ha : AD X ns c W (e :: es) (dAs fs)) (har : fs.length = ar := by rfl) (hdb : (x == ("__debug__" : Str)) = false := by decide) (he : starEach (e :: es) X.env = (false, eval e X.env) :: starEach es X.env := by rfl) (hpl : (backTo pos (starEach es X.env)).any (·.1) = false := by rfl) :
    ED X ns c W (.Call (.Name x p) (e :: es) [] pos) (dCall m (dAs fs)) :=
  pe_weak (pe_call F hr hg hm hk hb .nil hx ha hdb he hpl) fun σ H Q q => tCallD (ρ0 := []) (fun _ _ _ _ h => (dAs_len h).trans har) σ H Q q

/-! ### builtins called by name -/
def CB (K : PySem.W.Frag) (r : List V → Hp → VK → Prop) (h : List D → Option D) : Prop := ∀ ns c Hs H vs ds z Q, Same Hs H → Paired (SRep K ns c Hs) vs ds → h ds = some z →
  (∀ v Hs' H', ExtP Hs H Hs' H' → Rp K Hs' v z → Q v H') → r vs H Q
theorem tCBD {r : List V → Hp → VK → Prop} {h : List D → Option D} (hr : CB X.K r h) (σ : L2.St) (H : Hp) (Q : VK) (q : tD X.K ns c W (dUnA h A) σ H Q) : tCB r (tDA X.K ns c W A) σ H Q := by
  obtain ⟨Hs0, H0, Hs, ρ, n, z, n', R, e, q⟩ := q
  obtain ⟨ds, h1, h2⟩ := dUnA_some e
  refine ⟨Hs0, H0, Hs, ρ, n, ds, n', R, h1, fun vs Hs1 H1 e1 c1 r1 => ?_⟩
  exact hr ns c Hs1 H1 vs ds z Q (R.step e1 c1).sub r1 h2 fun v Hs2 H2 e2 r2 => q v Hs2 H2 (e1.trans c1 e2.ext) (e2.cel c1) (.inl r2)
theorem ed_callB {id : String} {r : List V → Hp → VK → Prop} {h : List D → Option D} (hc : CallR X (.builtin id) r) (hh : CB X.K r h) (hg : Gl X x) (hm : X.mg x = none) (hv : bootBuiltins x = some (.builtin id)) (ha : AD X ns c W (e :: es) A) (hn : x ≠ "__name__" := by decide) (hdb : (x == ("__debug__" : Str)) = false := by decide)
    (he : starEach (e :: es) X.env = (false, eval e X.env) :: starEach es X.env := by rfl) (hpl : (backTo pos (starEach es X.env)).any (·.1) = false := by rfl) : ED X ns c W (.Call (.Name x p) (e :: es) [] pos) (dUnA h A) :=
  pe_weak (pe_callB hc hg hm hv ha hn hdb he hpl) (tCBD hh)
theorem ed_callTy {T : String} {r : List V → Hp → VK → Prop} {h : List D → Option D} (hc : CallR X (.type T) r) (hh : CB X.K r h) (hg : Gl X x) (hm : X.mg x = none) (hv : bootBuiltins x = some (.type T)) (ha : AD X ns c W (e :: es) A) (hn : x ≠ "__name__" := by decide) (hdb : (x == ("__debug__" : Str)) = false := by decide)
    (he : starEach (e :: es) X.env = (false, eval e X.env) :: starEach es X.env := by rfl) (hpl : (backTo pos (starEach es X.env)).any (·.1) = false := by rfl) : ED X ns c W (.Call (.Name x p) (e :: es) [] pos) (dUnA h A) :=
  pe_weak (pe_callTy hc hg hm hv ha hn hdb he hpl) (tCBD hh)
end
end DL
/-! DLc: builtins, slices, statements. -/
namespace DL
open PySem PySem.Spec PyProof.Rows L2

/-! ### builtins by data -/
def hLen : List D → Option D
  | [.list xs] => some (.int xs.length)
  | [.tuple xs] => some (.int xs.length)
  | _ => none
def bools : List D → Option (List Bool)
  | [] => some []
  | .bool b :: ds => match bools ds with
    | some bs => some (b :: bs)
    | none => none
  | _ :: _ => none
def hAll : List D → Option D
  | [.list xs] => match bools xs with
    | some bs => some (.bool (bs.all id))
    | none => none
  | _ => none
def hAny : List D → Option D
  | [.list xs] => match bools xs with
    | some bs => some (.bool (bs.any id))
    | none => none
  | _ => none
def hMax2 : List D → Option D
  | [.int i, .int j] => some (.int (if j > i then j else i))
  | _ => none
def hMin2 : List D → Option D
  | [.int i, .int j] => some (.int (if j < i then j else i))
  | _ => none
def hAbs : List D → Option D
  | [.int i] => some (.int (if i < 0 then -i else i))
  | _ => none
def hTupleOf : List D → Option D
  | [.list xs] => some (.tuple xs)
  | [.tuple xs] => some (.tuple xs)
  | _ => none
def hListOf : List D → Option D
  | [.list xs] => some (.list xs)
  | [.tuple xs] => some (.list xs)
  | _ => none
def intsD : List D → Option (List Int)
  | [] => some []
  | .int b :: ds => match intsD ds with
    | some bs => some (b :: bs)
    | none => none
  | _ :: _ => none
def hSum : List D → Option D
  | [.list xs] => match intsD xs with
    | some bs => some (.int bs.sum)
    | none => none
  | _ => none
def tyName : D → Option String
  | .none => some "NoneType"
  | .bool _ => some "bool"
  | .int _ => some "int"
  | .str _ => some "str"
  | .list _ => some "list"
  | .tuple _ => some "tuple"
  | .dict _ => none
section
variable {X : Cx} {K : PySem.W.Frag}
theorem bools_rp {H : Hp} : ∀ {ds : List D} {bs : List Bool} {vs : List V}, bools ds = some bs → RpAll K H vs ds → vs = bs.map V.bl
  | [], bs, _, h, .nil => by unfold bools at h; cases h; rfl
  | .bool b :: ds, bs, _, h, .cons r t => by
    unfold bools at h
    split at h
    · rename_i bs' h'
      cases h
      rw [r.bool, bools_rp h' t]
      rfl
    · cases h
  | .none :: _, _, _, h, _ => by unfold bools at h; cases h
  | .int _ :: _, _, _, h, _ => by unfold bools at h; cases h
  | .str _ :: _, _, _, h, _ => by unfold bools at h; cases h
  | .list _ :: _, _, _, h, _ => by unfold bools at h; cases h
  | .tuple _ :: _, _, _, h, _ => by unfold bools at h; cases h
  | .dict _ :: _, _, _, h, _ => by unfold bools at h; cases h
theorem intsD_rp {H : Hp} : ∀ {ds : List D} {bs : List Int} {vs : List V}, intsD ds = some bs → RpAll K H vs ds → vs = bs.map V.int
  | [], bs, _, h, .nil => by unfold intsD at h; cases h; rfl
  | .int b :: ds, bs, _, h, .cons r t => by
    unfold intsD at h
    split at h
    · rename_i bs' h'
      cases h
      cases r
      rw [intsD_rp h' t]
      rfl
    · cases h
  | .none :: _, _, _, h, _ => by unfold intsD at h; cases h
  | .bool _ :: _, _, _, h, _ => by unfold intsD at h; cases h
  | .str _ :: _, _, _, h, _ => by unfold intsD at h; cases h
  | .list _ :: _, _, _, h, _ => by unfold intsD at h; cases h
  | .tuple _ :: _, _, _, h, _ => by unfold intsD at h; cases h
  | .dict _ :: _, _, _, h, _ => by unfold intsD at h; cases h
theorem pr1 {α β : Type} {F : α → β → Prop} {l : List α} {d : β} (h : Paired F l [d]) : ∃ v, l = [v] ∧ F v d := by
  cases h with
  | cons r t => cases t; exact ⟨_, rfl, r⟩
theorem pr2 {α β : Type} {F : α → β → Prop} {l : List α} {d e : β} (h : Paired F l [d, e]) : ∃ v w, l = [v, w] ∧ F v d ∧ F w e := by
  cases h with
  | cons r t =>
    obtain ⟨w, rfl, q⟩ := pr1 t
    exact ⟨_, w, rfl, r, q⟩
theorem cb_len : CB K (fun xs H Q => ∃ p ys, xs = [.ref p] ∧ (SqL K H p ys ∨ SqT K H p ys) ∧ Q (.int ys.length) H) hLen := by
  intro ns c Hs H vs ds z Q s r h q
  unfold hLen at h
  split at h
  · cases h
    obtain ⟨v, rfl, rv⟩ := pr1 r
    obtain ⟨a, xs, rfl, h1, r1⟩ := rv.list
    refine ⟨a, xs, rfl, .inl (SqL.of (s _ _ h1)), ?_⟩
    rw [r1.length]
    exact q _ Hs H (ExtP.refl s) (.int _)
  · cases h
    obtain ⟨v, rfl, rv⟩ := pr1 r
    obtain ⟨a, xs, rfl, h1, r1⟩ := rv.tuple
    refine ⟨a, xs, rfl, .inr (Same.seqT s h1), ?_⟩
    rw [r1.length]
    exact q _ Hs H (ExtP.refl s) (.int _)
  · cases h
theorem cb_all : CB K (rAll K) hAll := by
  intro ns c Hs H vs ds z Q s r h q
  unfold hAll at h
  split at h
  · split at h
    · rename_i bs hb
      cases h
      obtain ⟨v, rfl, rv⟩ := pr1 r
      obtain ⟨a, xs, rfl, h1, r1⟩ := rv.list
      have e := bools_rp hb r1
      subst e
      exact ⟨a, bs, rfl, SqL.of (s _ _ h1), q _ Hs H (ExtP.refl s) (.bl _)⟩
    · cases h
  · cases h
theorem cb_any : CB K (rAny K) hAny := by
  intro ns c Hs H vs ds z Q s r h q
  unfold hAny at h
  split at h
  · split at h
    · rename_i bs hb
      cases h
      obtain ⟨v, rfl, rv⟩ := pr1 r
      obtain ⟨a, xs, rfl, h1, r1⟩ := rv.list
      have e := bools_rp hb r1
      subst e
      exact ⟨a, bs, rfl, SqL.of (s _ _ h1), q _ Hs H (ExtP.refl s) (.bl _)⟩
    · cases h
  · cases h
theorem cb_sum : CB K (rSum K) hSum := by
  intro ns c Hs H vs ds z Q s r h q
  unfold hSum at h
  split at h
  · split at h
    · rename_i bs hb
      cases h
      obtain ⟨v, rfl, rv⟩ := pr1 r
      obtain ⟨a, xs, rfl, h1, r1⟩ := rv.list
      have e := intsD_rp hb r1
      subst e
      exact ⟨a, bs, rfl, SqL.of (s _ _ h1), q _ Hs H (ExtP.refl s) (.int _)⟩
    · cases h
  · cases h
theorem cb_max2 : CB K (fun xs H Q => ∃ i j, xs = [.int i, .int j] ∧ Q (.int (if j > i then j else i)) H) hMax2 := by
  intro ns c Hs H vs ds z Q s r h q
  unfold hMax2 at h
  split at h
  · cases h
    obtain ⟨v, w, rfl, r1, r2⟩ := pr2 r
    rw [r1.int, r2.int]
    exact ⟨_, _, rfl, q _ Hs H (ExtP.refl s) (.int _)⟩
  · cases h
theorem cb_min2 : CB K (fun xs H Q => ∃ i j, xs = [.int i, .int j] ∧ Q (.int (if j < i then j else i)) H) hMin2 := by
  intro ns c Hs H vs ds z Q s r h q
  unfold hMin2 at h
  split at h
  · cases h
    obtain ⟨v, w, rfl, r1, r2⟩ := pr2 r
    rw [r1.int, r2.int]
    exact ⟨_, _, rfl, q _ Hs H (ExtP.refl s) (.int _)⟩
  · cases h
theorem cb_abs : CB K (fun xs H Q => ∃ i, xs = [.int i] ∧ Q (.int (if i < 0 then -i else i)) H) hAbs := by
  intro ns c Hs H vs ds z Q s r h q
  unfold hAbs at h
  split at h
  · cases h
    obtain ⟨v, rfl, r1⟩ := pr1 r
    rw [r1.int]
    exact ⟨_, rfl, q _ Hs H (ExtP.refl s) (.int _)⟩
  · cases h
theorem cb_tuple : CB K (fun xs H Q => ∃ p ys, xs = [.ref p] ∧ ((SqL K H p ys ∧ ∀ l, H l = none → Q (.ref l) (upd H l (.tup ys))) ∨ (SqT K H p ys ∧ Q (.ref p) H))) hTupleOf := by
  intro ns c Hs H vs ds z Q s r h q
  unfold hTupleOf at h
  split at h
  · cases h
    obtain ⟨v, rfl, rv⟩ := pr1 r
    obtain ⟨a, xs, rfl, h1, r1⟩ := rv.list
    refine ⟨a, xs, rfl, .inl ⟨SqL.of (s _ _ h1), fun l hl => ?_⟩⟩
    have e3 := ExtP.new1 (o := .tup xs) s hl
    exact q _ _ _ e3 (.tup (SqT.of upd_same) (RpAll.same e3.st _ _ r1))
  · cases h
    obtain ⟨v, rfl, rv⟩ := pr1 r
    obtain ⟨a, xs, rfl, h1, r1⟩ := rv.tuple
    exact ⟨a, xs, rfl, .inr ⟨Same.seqT s h1, q _ Hs H (ExtP.refl s) (.tup h1 r1)⟩⟩
  · cases h
theorem cb_list : CB K (fun xs H Q => ∃ p ys, xs = [.ref p] ∧ (SqL K H p ys ∨ SqT K H p ys) ∧ ∀ l, H l = none → Q (.ref l) (upd H l (.lst ys))) hListOf := by
  intro ns c Hs H vs ds z Q s r h q
  unfold hListOf at h
  split at h
  · cases h
    obtain ⟨v, rfl, rv⟩ := pr1 r
    obtain ⟨a, xs, rfl, h1, r1⟩ := rv.list
    refine ⟨a, xs, rfl, .inl (SqL.of (s _ _ h1)), fun l hl => ?_⟩
    have e3 := ExtP.new1 (o := .lst xs) s hl
    exact q _ _ _ e3 (.lst upd_same (RpAll.same e3.st _ _ r1))
  · cases h
    obtain ⟨v, rfl, rv⟩ := pr1 r
    obtain ⟨a, xs, rfl, h1, r1⟩ := rv.tuple
    refine ⟨a, xs, rfl, .inr (Same.seqT s h1), fun l hl => ?_⟩
    have e3 := ExtP.new1 (o := .lst xs) s hl
    exact q _ _ _ e3 (.lst upd_same (RpAll.same e3.st _ _ r1))
  · cases h
/-- isinstance(e, T), T a built-in type's name -/
theorem Rp.tyx {H : Hp} {v : V} : ∀ {d : D} {T : String}, tyName d = some T → Rp K H v d → TyX K H v (.type T)
  | .none, _, e, h => by cases e; cases h; exact .base .non
  | .bool _, _, e, h => by cases e; cases h; exact .base (.bl _)
  | .int _, _, e, h => by cases e; cases h; exact .base (.int _)
  | .str _, _, e, h => by cases e; cases h; exact .base (.str _)
  | .list _, _, e, h => by
    cases e
    cases h with
    | lst h1 _ => exact .base (.lst h1)
  | .tuple _, _, e, h => by
    cases e
    cases h with
    | tup h1 _ =>
      rcases h1 with (h1 | ⟨o, h1⟩) | ⟨o, its, n, h1, h2, _⟩
      · exact .base (.tup h1)
      · exact .fTuple h1
      · exact .kTuple h1 h2
def hIsi (T : String) (d : D) : Option D := match tyName d with
  | some S => match kitB S T with
    | some b => some (.bool b)
    | none => none
  | none => none
variable {ns : List Int} {c : Md} {W : List Nat} {a b e k : Expr} {es : List Expr} {f g u : DEnv → M D} {pos p p2 : Pos} {A : DEnv → M (List D)}
theorem dUn_some {h : D → Option D} {ρ : DEnv} {n n' : Nat} {z : D} (e : dUn h f ρ n = some (z, n')) : ∃ x, f ρ n = some (x, n') ∧ h x = some z := by
  unfold dUn at e
  split at e
  · rename_i x n1 h1
    split at e
    · rename_i z' h2
      cases e
      exact ⟨x, h1, h2⟩
    · cases e
  · cases e
theorem ed_isi {T : String} {xt : Str} (hg : Gl X "isinstance") (hm : X.mg "isinstance" = none) (hgT : Gl X xt) (hmT : X.mg xt = none) (hvT : bootBuiltins xt = some (.type T)) (ha : ED X ns c W a f) (hnT : xt ≠ "__name__" := by decide) (hdT : (xt == ("__debug__" : Str)) = false := by decide)
    (hb : bootBuiltins "isinstance" = some (.builtin "isinstance") := by decide +kernel)
    (h1 : starEach [.Name xt p2] X.env = (false, eval (.Name xt p2) X.env) :: starEach [] X.env := by rfl)
    (h2 : starEach [a, .Name xt p2] X.env = (false, eval a X.env) :: starEach [.Name xt p2] X.env := by rfl) (hpl : (backTo pos (starEach [.Name xt p2] X.env)).any (·.1) = false := by rfl) :
    ED X ns c W (.Call (.Name "isinstance" p) [a, .Name xt p2] [] pos) (dUn (hIsi T) f) := by
  have hT : PE X (.Name xt p2) (tC (V.ty T)) := pe_bltn hgT hmT hvT rfl hnT hdT
  refine pe_weak (pe_callB call_isi hg hm hb (pa_cons ha (pa_cons hT pa_nil h1) h2) (by decide) (by decide) h2 hpl) fun σ H Q q => ?_
  obtain ⟨Hs0, H0, Hs, ρ, n, z, n', R, e, q⟩ := q
  obtain ⟨x, h1, h2⟩ := dUn_some e
  refine ⟨Hs0, H0, Hs, ρ, n, x, n', R, h1, fun v Hs1 H1 e1 c1 r1 => ?_⟩
  unfold hIsi at h2
  split at h2
  · rename_i S hS
    split at h2
    · rename_i bb hk
      cases h2
      have rp : Rp X.K Hs1 v x := r1.rp fun kvs e => by subst e; cases hS
      exact ⟨v, .ty T, .type S, .type T, bb, rfl, .ty T, (Rp.same (R.step e1 c1).sub _ _ rp).tyx hS, kit_ty hk, q _ Hs1 H1 e1 c1 (.inl (.bl _))⟩
    · cases h2
  · cases h2

/-! ### slices -/
def cutD (xs : List D) (lo hi : Option Int) : List D := (xs.drop (HT.sIx xs.length 0 lo)).take (HT.sIx xs.length xs.length hi - HT.sIx xs.length 0 lo)
theorem cut_rp {H : Hp} {xs : List V} {ds : List D} {lo hi : Option Int} (r : RpAll K H xs ds) : RpAll K H (cutV xs lo hi) (cutD ds lo hi) := by
  unfold cutV cutD
  rw [r.length]
  exact (r.drop _).take _
def hSl (lo hi : Option Int) : D → Option D
  | .list xs => some (.list (cutD xs lo hi))
  | .tuple xs => some (.tuple (cutD xs lo hi))
  | _ => none
def dPart (f : Option (DEnv → M D)) : DEnv → M (Option Int) := fun ρ n => match f with
  | none => some (none, n)
  | some f => match f ρ n with
    | some (.int i, n1) => some (some i, n1)
    | _ => none
def dSl (f : DEnv → M D) (lo hi : Option (DEnv → M D)) : DEnv → M D := fun ρ n =>
  match f ρ n with
  | some (x, n1) => match dPart lo ρ n1 with
    | some (l, n2) => match dPart hi ρ n2 with
      | some (h, n3) => match hSl l h x with
        | some z => some (z, n3)
        | none => none
      | none => none
    | none => none
  | none => none
def tDO (K : PySem.W.Frag) (ns : List Int) (c : Md) (W : List Nat) (f : Option (DEnv → M D)) : TO := fun σ H Q => ∃ Hs0 H0 Hs ρ n d n', Rel K ns c W Hs0 H0 Hs H σ ρ n ∧ dPart f ρ n = some (d, n') ∧
  ∀ Hs' H', Ext c Hs H Hs' H' → Cel c n' H' → Q d H'
abbrev OD (X : Cx) (ns : List Int) (c : Md) (W : List Nat) (e : Option Expr) (f : Option (DEnv → M D)) : Prop := PO X e (tDO X.K ns c W f)
theorem po_weak {X : Cx} {e : Option Expr} {t t' : TO} (h : PO X e t) (w : ∀ σ H Q, t' σ H Q → t σ H Q) : PO X e t' := ⟨fun pins s σ H Q I q => h.run pins s σ H Q I (w σ H Q q)⟩
theorem od_none : OD X ns c W none none := by
  refine po_weak po_none fun σ H Q q => ?_
  obtain ⟨Hs0, H0, Hs, ρ, n, z, n', R, e, q⟩ := q
  cases e
  exact q Hs H (ExtP.refl R.sub).ext R.cel
theorem od_some (h : ED X ns c W e f) : OD X ns c W (some e) (some f) := by
  refine po_weak (po_some h) fun σ H Q q => ?_
  obtain ⟨Hs0, H0, Hs, ρ, n, z, n', R, e, q⟩ := q
  unfold dPart at e
  simp only at e
  split at e
  · rename_i i n1 h1
    cases e
    exact ⟨Hs0, H0, Hs, ρ, n, _, _, R, h1, fun v Hs' H' e1 c1 r1 => ⟨i, r1.int, q Hs' H' e1 c1⟩⟩
  · cases e
theorem sl_seqD : SlR X (fun x l h H Q => rSlA X.K x l h H Q ∨ rSlL X.K x l h H Q) := SlR.or sl_tupA sl_list
theorem cutD_all {xs : List D} {lo hi : Option Int} (h : HT.sIx xs.length 0 lo = 0 ∧ HT.sIx xs.length xs.length hi = xs.length) : cutD xs lo hi = xs := by
  unfold cutD
  rw [h.1, h.2]
  simp
theorem ed_slice {lo hi : Option Expr} {fl fh : Option (DEnv → M D)} (ha : ED X ns c W a f) (hl : OD X ns c W lo fl) (hh : OD X ns c W hi fh) : ED X ns c W (.Subscript a (.Slice lo hi none p2) pos) (dSl f fl fh) := by
  refine pe_weak (pe_slice sl_seqD ha hl hh) fun σ H Q q => ?_
  obtain ⟨Hs0, H0, Hs, ρ, n, z, n', R, e, q⟩ := q
  unfold dSl at e
  split at e
  · rename_i x n1 h1
    split at e
    · rename_i l n2 h2
      split at e
      · rename_i h n3 h3
        split at e
        · rename_i z' h4
          cases e
          refine ⟨Hs0, H0, Hs, ρ, n, x, n1, R, h1, fun v Hs1 H1 e1 c1 r1 => ?_⟩
          have R1 := R.step e1 c1
          refine ⟨Hs0, H0, Hs1, ρ, n1, l, n2, R1, h2, fun Hs2 H2 e2 c2 => ?_⟩
          have R2 := R1.step e2 c2
          refine ⟨Hs0, H0, Hs2, ρ, n2, h, _, R2, h3, fun Hs3 H3 e3 c3 => ?_⟩
          have R3 := R2.step e3 c3
          have r3 := r1.same (Same.trans' e2.st e3.st)
          have ee := (e1.trans c1 e2).trans c2 e3
          cases x with
          | list xs =>
            cases h4
            obtain ⟨p, vs, rfl, t1, t2⟩ := r3.list
            refine .inr ⟨p, vs, rfl, SqL.of (R3.sub _ _ t1), fun b hb => ?_⟩
            have e4 := ExtP.new1 (o := .lst (cutV vs l h)) R3.sub hb
            exact q _ _ _ (ee.trans c3 e4.ext) (e4.cel c3) (.inl (.lst upd_same (RpAll.same e4.st _ _ (cut_rp t2))))
          | tuple xs =>
            cases h4
            obtain ⟨p, vs, rfl, t1, t2⟩ := r3.tuple
            refine .inl ⟨p, vs, rfl, Same.seqT R3.sub t1, fun hw => ?_, fun _ b hb => ?_⟩
            · rw [t2.length] at hw
              rw [cutD_all hw] at q
              exact q _ Hs3 H3 ee c3 (.inl (.tup t1 t2))
            · have e4 := ExtP.new1 (o := .tup (cutV vs l h)) R3.sub hb
              exact q _ _ _ (ee.trans c3 e4.ext) (e4.cel c3) (.inl (.tup (SqT.of upd_same) (RpAll.same e4.st _ _ (cut_rp t2))))
          | _ => cases h4
        · cases e
      · cases e
    · cases e
  · cases e
/-- a name of the module's top that holds data -/
theorem ed_glob {x : Str} {v : V} {w : Value} {d : D} (hg : Gl X x) (hm : X.mg x = some w) (r : RelV v w) (hr : ∀ H, Rp X.K H v d) (hd : (x == ("__debug__" : Str)) = false := by decide) : ED X ns c W (.Name x pos) (dC d) := ed_const (pe_glob hg hm r hd) hr
def hNeg : D → Option D
  | .int i => some (.int (-i))
  | _ => none
theorem ed_neg (ha : ED X ns c W a f) : ED X ns c W (.UnaryOp .USub a pos) (dUn hNeg f) := by
  refine pe_weak (pe_un un_neg ha) fun σ H Q q => ?_
  obtain ⟨Hs0, H0, Hs, ρ, n, z, n', R, e, q⟩ := q
  obtain ⟨x, h1, h2⟩ := dUn_some e
  refine ⟨Hs0, H0, Hs, ρ, n, x, n', R, h1, fun v Hs1 H1 e1 c1 r1 => ?_⟩
  unfold hNeg at h2
  split at h2
  · cases h2
    exact ⟨_, r1.int, q _ Hs1 H1 e1 c1 (.inl (.int _))⟩
  · cases h2
/-- in, not in: flat items -/
def flatD : D → Bool
  | .none => true
  | .bool _ => true
  | .int _ => true
  | .str _ => true
  | _ => false
theorem flat_rp {H : Hp} {v : V} : ∀ {d : D}, flatD d = true → Rp K H v d → flatV v = true
  | .none, _, h => by cases h; rfl
  | .bool _, _, h => by cases h; rfl
  | .int _, _, h => by cases h; rfl
  | .str _, _, h => by cases h; rfl
  | .list _, h, _ => by cases h
  | .tuple _, h, _ => by cases h
  | .dict _, h, _ => by cases h
theorem flat_all {H : Hp} : ∀ {vs : List V} {ds : List D}, ds.all flatD = true → RpAll K H vs ds → vs.all flatV = true
  | [], [], _, _ => rfl
  | _ :: _, _ :: _, h, .cons r t => by
    rw [List.all_cons, Bool.and_eq_true] at h ⊢
    exact ⟨flat_rp h.1 r, flat_all h.2 t⟩
theorem eqV_rp {H : Hp} {v w : V} {d e : D} (h1 : flatD d = true) (h2 : flatD e = true) (r1 : Rp K H v d) (r2 : Rp K H w e) : eqV v w = PyData.eqv d e := by
  cases d <;> (first | cases h1) <;> (cases e <;> (first | cases h2)) <;> (cases r1; cases r2) <;> simp [eqV, PyData.eqv]
theorem inV_rp {H : Hp} {v : V} {d : D} (h1 : flatD d = true) (r1 : Rp K H v d) : ∀ {vs : List V} {ds : List D}, ds.all flatD = true → RpAll K H vs ds → inV v vs = ds.any fun y => PyData.eqv y d
  | [], [], _, _ => rfl
  | _ :: _, _ :: _, h, .cons r t => by
    rw [List.all_cons, Bool.and_eq_true] at h
    unfold inV
    rw [List.any_cons, List.any_cons, eqV_rp h.1 h1 r r1]
    have := inV_rp h1 r1 h.2 t
    unfold inV at this
    rw [this]
def hIn : D → D → Option D
  | x, .list xs => if flatD x = true ∧ xs.all flatD = true then some (.bool (xs.any fun y => PyData.eqv y x)) else none
  | x, .tuple xs => if flatD x = true ∧ xs.all flatD = true then some (.bool (xs.any fun y => PyData.eqv y x)) else none
  | _, _ => none
def hNotIn : D → D → Option D
  | x, .list xs => if flatD x = true ∧ xs.all flatD = true then some (.bool (!xs.any fun y => PyData.eqv y x)) else none
  | x, .tuple xs => if flatD x = true ∧ xs.all flatD = true then some (.bool (!xs.any fun y => PyData.eqv y x)) else none
  | _, _ => none
theorem flat_noDict : ∀ {d : D}, flatD d = true → ∀ k, d ≠ .dict k
  | .none, _, _, h => by cases h
  | .bool _, _, _, h => by cases h
  | .int _, _, _, h => by cases h
  | .str _, _, _, h => by cases h
  | .list _, _, _, h => by cases h
  | .tuple _, _, _, h => by cases h
  | .dict _, h, _, _ => by cases h
theorem r2_in : R2D K (rIn K false) hIn := by
  intro ns c Hs H x y d e z Q s rx ry hz q
  unfold hIn at hz
  split at hz
  · obtain ⟨⟨p1, p2⟩, rfl⟩ := Option.some_of_if hz
    obtain ⟨a, xs, rfl, h1, r1⟩ := ry.list
    have rd := rx.rp (flat_noDict p1)
    refine ⟨a, xs, rfl, .inl (SqL.of (s _ _ h1)), flat_rp p1 rd, flat_all p2 r1, ?_⟩
    rw [if_neg Bool.false_ne_true, inV_rp p1 rd p2 r1]
    exact q _ Hs H (ExtP.refl s) (.bl _)
  · obtain ⟨⟨p1, p2⟩, rfl⟩ := Option.some_of_if hz
    obtain ⟨a, xs, rfl, h1, r1⟩ := ry.tuple
    have rd := rx.rp (flat_noDict p1)
    refine ⟨a, xs, rfl, .inr (Same.seqT s h1), flat_rp p1 rd, flat_all p2 r1, ?_⟩
    rw [if_neg Bool.false_ne_true, inV_rp p1 rd p2 r1]
    exact q _ Hs H (ExtP.refl s) (.bl _)
  · cases hz
theorem r2_notIn : R2D K (rIn K true) hNotIn := by
  intro ns c Hs H x y d e z Q s rx ry hz q
  unfold hNotIn at hz
  split at hz
  · obtain ⟨⟨p1, p2⟩, rfl⟩ := Option.some_of_if hz
    obtain ⟨a, xs, rfl, h1, r1⟩ := ry.list
    have rd := rx.rp (flat_noDict p1)
    refine ⟨a, xs, rfl, .inl (SqL.of (s _ _ h1)), flat_rp p1 rd, flat_all p2 r1, ?_⟩
    rw [if_pos rfl, inV_rp p1 rd p2 r1]
    exact q _ Hs H (ExtP.refl s) (.bl _)
  · obtain ⟨⟨p1, p2⟩, rfl⟩ := Option.some_of_if hz
    obtain ⟨a, xs, rfl, h1, r1⟩ := ry.tuple
    have rd := rx.rp (flat_noDict p1)
    refine ⟨a, xs, rfl, .inr (Same.seqT s h1), flat_rp p1 rd, flat_all p2 r1, ?_⟩
    rw [if_pos rfl, inV_rp p1 rd p2 r1]
    exact q _ Hs H (ExtP.refl s) (.bl _)
  · cases hz
theorem cd_in : CmpD X .In hIn := ⟨_, op_in_seq, r2_in⟩
theorem cd_notIn : CmpD X .NotIn hNotIn := ⟨_, op_notIn_seq, r2_notIn⟩
end
end DL
/-! DLd: statements, loops, comprehensions, defs by data. -/
namespace DL
open PySem PySem.Spec PyProof.Rows L2

inductive Out where
  | nx (ρ : DEnv) | rt (d : D) | bk (ρ : DEnv) | ct (ρ : DEnv) | ex (cls : Str)
abbrev SDen := DEnv → M Out

/-! ### freezing -/
open Classical in
/-- what stays owned: W'; the others become stable -/
noncomputable def frzH (W W' : List Nat) (σ : L2.St) (Hs H : Hp) : Hp := fun p => if ∃ i, i ∈ W ∧ i ∉ W' ∧ σ[i]? = some (some (.ref p)) then H p else Hs p
theorem Rel.frz {K : PySem.W.Frag} {ns : List Int} {c : Md} {W : List Nat} {Hs0 H0 Hs H : Hp} {σ : L2.St} {ρ : DEnv} {n : Nat} (W' : List Nat) (hW : ∀ i ∈ W', i ∈ W) (r : Rel K ns c W Hs0 H0 Hs H σ ρ n) : Rel K ns c W' Hs0 H0 (frzH W W' σ Hs H) H σ ρ n := by
  have hn : ∀ p, (∃ i, i ∈ W ∧ i ∉ W' ∧ σ[i]? = some (some (.ref p))) → Hs p = none ∧ H0 p = none ∧ (∀ q, c = some q → p ≠ q.1) := by
    rintro p ⟨i, h1, h2, h3⟩
    obtain ⟨p', vs, ds, a1, a2, a3, a4, a5, a6, a7⟩ := r.own i h1
    rw [a2] at h3
    cases h3
    exact ⟨a5, a6, a7⟩
  have hs : Same Hs (frzH W W' σ Hs H) := fun p o e => by
    unfold frzH
    by_cases q : ∃ i, i ∈ W ∧ i ∉ W' ∧ σ[i]? = some (some (.ref p))
    · rw [(hn p q).1] at e; cases e
    · rw [if_neg q]; exact e
  refine ⟨⟨Same.trans' r.ext.st hs, r.ext.al, fun p o e => ?_, fun p h => ?_⟩, r.cel, fun p hp => ?_, fun i d h hi => ?_, fun i hi => ?_, fun i hi j hj => r.apart i (hW i hi) j (hW j hj), r.len⟩
  · unfold frzH at e
    by_cases q : ∃ i, i ∈ W ∧ i ∉ W' ∧ σ[i]? = some (some (.ref p))
    · rw [if_pos q] at e; exact e
    · rw [if_neg q] at e; exact r.sub p o e
  · by_cases q : ∃ i, i ∈ W ∧ i ∉ W' ∧ σ[i]? = some (some (.ref p))
    · exact .inr (hn p q).2.1
    · unfold frzH at h
      rw [if_neg q] at h
      exact r.ext.new p h
  · unfold frzH
    rw [if_neg]
    · exact r.hc p hp
    · intro q
      exact (hn _ q).2.2 p hp rfl
  · by_cases hw : i ∈ W
    · obtain ⟨p, vs, ds, a1, a2, a3, a4, a5, a6, a7⟩ := r.own i hw
      rw [a1] at h
      cases h
      rcases a4 with ⟨vs', ds', h1, h2, h3⟩ | h4
      · subst h1 h2
        refine ⟨.ref p, a2, .inl (.lst ?_ (RpAll.same hs _ _ h3))⟩
        unfold frzH
        rw [if_pos ⟨i, hw, hi, a2⟩]
        exact a3
      · obtain ⟨kvs, xs, ep, h1, h2⟩ := id h4
        subst h1
        refine ⟨.ref p, a2, .inr (.inr (.inr (.inr ⟨p, _, _, _, rfl, .inr ⟨rfl, .inr ⟨kvs, rfl, ?_, h4.same hs⟩⟩, rfl⟩)))⟩
        unfold frzH
        rw [if_pos ⟨i, hw, hi, a2⟩]
        exact a3
    · obtain ⟨v, h1, h2⟩ := r.vars i d h hw
      exact ⟨v, h1, h2.same hs⟩
  · obtain ⟨p, vs, ds, a1, a2, a3, a4, a5, a6, a7⟩ := r.own i (hW i hi)
    refine ⟨p, vs, ds, a1, a2, a3, a4.same hs, ?_, a6, a7⟩
    unfold frzH
    rw [if_neg]
    · exact a5
    · rintro ⟨j, j1, j2, j3⟩
      exact r.apart i (hW i hi) j j1 (fun e => j2 (e ▸ hi)) p a2 j3

theorem Rel.frzS {K : PySem.W.Frag} {ns : List Int} {c : Md} {W : List Nat} {Hs0 H0 Hs H : Hp} {σ : L2.St} {ρ : DEnv} {n : Nat} (W' : List Nat) (R : Rel K ns c W Hs0 H0 Hs H σ ρ n) : Same Hs (frzH W W' σ Hs H) := fun p o e => by
  unfold frzH
  by_cases q : ∃ i, i ∈ W ∧ i ∉ W' ∧ σ[i]? = some (some (.ref p))
  · obtain ⟨j, h1, h2, h3⟩ := q
    obtain ⟨p', vs, ds, a1, a2, a3, a4, a5, a6, a7⟩ := R.own j h1
    rw [a2] at h3
    cases h3
    rw [a5] at e
    cases e
  · rw [if_neg q]; exact e
/-! ### statements' readings -/
/-- what an exception must fulfil -/
abbrev XW := Value → Option Addr → L2.St → Hp → Prop
/-- what leaves a def: a new list or any value; exceptions -/
structure FR where
  nw : Bool
  wx : XW
/-- what a return gives: a value, or (fr) a new list -/
def RetRep (fr : Bool) (K : PySem.W.Frag) (ns : List Int) (c : Md) (H0 Hs H : Hp) (v : V) (d : D) : Prop := match fr with
  | false => SRep K ns c Hs v d
  | true => ∃ p vs ds, v = .ref p ∧ d = .list ds ∧ H0 p = none ∧ Hs p = none ∧ H p = some (.lst vs) ∧ RpAll K Hs vs ds
def EndsOk (K : PySem.W.Frag) (fr : FR) (ns : List Int) (c : Md) (Wb W' : List Nat) (Hs0 H0 Hs : Hp) (n' : Nat) (E : Ends) : Out → Prop
  | .nx ρ' => ∀ σ' Hs' H', Same Hs Hs' → Rel K ns c W' Hs0 H0 Hs' H' σ' ρ' n' → E.nx σ' H'
  | .rt d => ∀ v Hs' H', Ext c Hs0 H0 Hs' H' → Cel c n' H' → RetRep fr.nw K ns c H0 Hs' H' v d → E.rt v H'
  | .bk ρ' => ∀ σ' Hs' H', Same Hs Hs' → Rel K ns c Wb Hs0 H0 Hs' H' σ' ρ' n' → E.bk σ' H'
  | .ct ρ' => ∀ σ' Hs' H', Same Hs Hs' → Rel K ns c Wb Hs0 H0 Hs' H' σ' ρ' n' → E.ct σ' H'
  | .ex x => ∀ cls σ' Hs' H' W1 ρ', PySem.W.nsIn K mainGlobals x = some (some cls) → Same Hs Hs' → Rel K ns c W1 Hs0 H0 Hs' H' σ' ρ' n' → fr.wx cls none σ' H'
def tDS (K : PySem.W.Frag) (fr : FR) (ns : List Int) (c : Md) (Wb W W' : List Nat) (S : SDen) : TS := fun E σ H => ∃ Hs0 H0 Hs ρ n o n', Rel K ns c W Hs0 H0 Hs H σ ρ n ∧ S ρ n = some (o, n') ∧ EndsOk K fr ns c Wb W' Hs0 H0 Hs n' E o
abbrev SD (X : Cx) (fr : FR) (ns : List Int) (c : Md) (Wb W W' : List Nat) (st : Stmt) (S : SDen) : Prop := PS X st (tDS X.K fr ns c Wb W W' S)
abbrev SSD (X : Cx) (fr : FR) (ns : List Int) (c : Md) (Wb W W' : List Nat) (st : List Stmt) (S : SDen) : Prop := PSs X st (tDS X.K fr ns c Wb W W' S)

/-! ### denotations of statements -/
def sNil : SDen := fun ρ n => some (.nx ρ, n)
def sSeq (S T : SDen) : SDen := fun ρ n =>
  match S ρ n with
  | some (.nx ρ', n') => T ρ' n'
  | r => r
def sBreak : SDen := fun ρ n => some (.bk ρ, n)
def sCont : SDen := fun ρ n => some (.ct ρ, n)
def sRet (f : DEnv → M D) : SDen := fun ρ n =>
  match f ρ n with
  | some (d, n') => some (.rt d, n')
  | none => none
def sRetN : SDen := fun _ n => some (.rt .none, n)
def sDrop (f : DEnv → M D) : SDen := fun ρ n =>
  match f ρ n with
  | some (_, n') => some (.nx ρ, n')
  | none => none
def sSet (i : Nat) (f : DEnv → M D) : SDen := fun ρ n =>
  match f ρ n with
  | some (d, n') => some (.nx (ρ.set i (some d)), n')
  | none => none
def sIf (t : DEnv → M Bool) (S T : SDen) : SDen := dIf t S T
def sNever : SDen := fun _ _ => none
/-- the list in slot i, changed -/
def sMut (i : Nat) (h : List D → List D → Option (List D)) (A : DEnv → M (List D)) : SDen := fun ρ n =>
  match A ρ n with
  | some (as, n') => match ρ[i]? with
    | some (some (.list ds)) => match h ds as with
      | some ds' => some (.nx (ρ.set i (some (.list ds'))), n')
      | none => none
    | _ => none
  | none => none
def hAppend (ds : List D) : List D → Option (List D)
  | [d] => if noDict d = true ∧ ds.length < LIM then some (ds ++ [d]) else none
  | _ => none
def hExtend (ds : List D) : List D → Option (List D)
  | [.list es] => if ds.length + es.length ≤ LIM then some (ds ++ es) else none
  | _ => none

section
variable {X : Cx} {fr : FR} {wx : XW} {ns : List Int} {c : Md} {W W' W1 W2 Wb : List Nat} {a b e k : Expr} {es : List Expr} {f g u : DEnv → M D} {pos : Pos} {st : Stmt} {rest : List Stmt} {S T : SDen} {t : DEnv → M Bool}

/-- ownership given up, ahead and behind -/
theorem tDS_pre (hW : ∀ i ∈ W1, i ∈ W) {E : Ends} {σ : L2.St} {H : Hp} (q : tDS X.K fr ns c Wb W W' S E σ H) : tDS X.K fr ns c Wb W1 W' S E σ H := by
  obtain ⟨Hs0, H0, Hs, ρ, n, o, n', R, e, q⟩ := q
  refine ⟨Hs0, H0, _, ρ, n, o, n', R.frz W1 hW, e, ?_⟩
  have s1 := R.frzS W1
  cases o with
  | nx ρ' => exact fun σ' Hs' H' s r => q σ' Hs' H' (Same.trans' s1 s) r
  | rt d => exact q
  | bk ρ' => exact fun σ' Hs' H' s r => q σ' Hs' H' (Same.trans' s1 s) r
  | ct ρ' => exact fun σ' Hs' H' s r => q σ' Hs' H' (Same.trans' s1 s) r
  | ex x => exact fun cls σ' Hs' H' W1 ρ' hx s2 r2 => q cls σ' Hs' H' W1 ρ' hx (Same.trans' s1 s2) r2
theorem tDS_post (hW : ∀ i ∈ W2, i ∈ W') {E : Ends} {σ : L2.St} {H : Hp} (q : tDS X.K fr ns c Wb W W2 S E σ H) : tDS X.K fr ns c Wb W W' S E σ H := by
  obtain ⟨Hs0, H0, Hs, ρ, n, o, n', R, e, q⟩ := q
  refine ⟨Hs0, H0, Hs, ρ, n, o, n', R, e, ?_⟩
  cases o with
  | nx ρ' => exact fun σ' Hs' H' s r => q σ' _ H' (Same.trans' s (r.frzS W2)) (r.frz W2 hW)
  | rt d => exact q
  | bk ρ' => exact q
  | ct ρ' => exact q
  | ex x => exact q
theorem sd_pre (hW : ∀ i ∈ W1, i ∈ W := by decide) (h : SD X fr ns c Wb W1 W' st S) : SD X fr ns c Wb W W' st S := ps_weak h fun _ _ _ q => tDS_pre hW q
theorem ssd_pre (hW : ∀ i ∈ W1, i ∈ W := by decide) (h : SSD X fr ns c Wb W1 W' rest S) : SSD X fr ns c Wb W W' rest S := pss_weak h fun _ _ _ q => tDS_pre hW q
theorem sd_post (hW : ∀ i ∈ W2, i ∈ W' := by decide) (h : SD X fr ns c Wb W W' st S) : SD X fr ns c Wb W W2 st S := ps_weak h fun _ _ _ q => tDS_post hW q
theorem ssd_post (hW : ∀ i ∈ W2, i ∈ W' := by decide) (h : SSD X fr ns c Wb W W' rest S) : SSD X fr ns c Wb W W2 rest S := pss_weak h fun _ _ _ q => tDS_post hW q

theorem ssd_nil : SSD X fr ns c Wb W W [] sNil := by
  refine pss_weak pss_nil fun E σ H q => ?_
  obtain ⟨Hs0, H0, Hs, ρ, n, o, n', R, e, q⟩ := q
  cases e
  exact q σ Hs H Same.rfl' R
theorem ssd_one (h : SD X fr ns c Wb W W' st S) : SSD X fr ns c Wb W W' [st] S := pss_one h
theorem ssd_cons (h1 : SD X fr ns c Wb W W1 st S) (h2 : SSD X fr ns c Wb W1 W' rest T) : SSD X fr ns c Wb W W' (st :: rest) (sSeq S T) := by
  refine pss_weak (pss_cons h1 h2) fun E σ H q => ?_
  obtain ⟨Hs0, H0, Hs, ρ, n, o, n', R, e, q⟩ := q
  unfold sSeq at e
  split at e
  · rename_i ρ1 n1 h
    refine ⟨Hs0, H0, Hs, ρ, n, _, _, R, h, fun σ' Hs' H' s r => ⟨Hs0, H0, Hs', ρ1, n1, o, n', r, e, ?_⟩⟩
    cases o with
    | nx ρ' => exact fun σ2 Hs2 H2 s2 r2 => q σ2 Hs2 H2 (Same.trans' s s2) r2
    | rt d => exact q
    | bk ρ' => exact fun σ2 Hs2 H2 s2 r2 => q σ2 Hs2 H2 (Same.trans' s s2) r2
    | ct ρ' => exact fun σ2 Hs2 H2 s2 r2 => q σ2 Hs2 H2 (Same.trans' s s2) r2
    | ex x => exact fun cls σ' Hs' H' W1 ρ' hx s2 r2 => q cls σ' Hs' H' W1 ρ' hx (Same.trans' s s2) r2
  · refine ⟨Hs0, H0, Hs, ρ, n, o, n', R, e, ?_⟩
    cases o with
    | nx ρ' => rename_i hx; exact absurd e (hx _ _)
    | rt d => exact q
    | bk ρ' => exact q
    | ct ρ' => exact q
    | ex x => exact q
theorem sd_pass : SD X fr ns c Wb W W (.Pass pos) sNil := by
  refine ps_weak ps_pass fun E σ H q => ?_
  obtain ⟨Hs0, H0, Hs, ρ, n, o, n', R, e, q⟩ := q
  cases e
  exact q σ Hs H Same.rfl' R
theorem sd_doc {x j pos'} : SD X fr ns c Wb W W (.Expr (.Constant (.str x) j pos) pos') sNil := by
  refine ps_weak ps_doc fun E σ H q => ?_
  obtain ⟨Hs0, H0, Hs, ρ, n, o, n', R, e, q⟩ := q
  cases e
  exact q σ Hs H Same.rfl' R
theorem sd_break : SD X fr ns c W W W' (.Break pos) sBreak := by
  refine ps_weak ps_break fun E σ H q => ?_
  obtain ⟨Hs0, H0, Hs, ρ, n, o, n', R, e, q⟩ := q
  cases e
  exact q σ Hs H Same.rfl' R
theorem sd_cont : SD X fr ns c W W W' (.Continue pos) sCont := by
  refine ps_weak ps_continue fun E σ H q => ?_
  obtain ⟨Hs0, H0, Hs, ρ, n, o, n', R, e, q⟩ := q
  cases e
  exact q σ Hs H Same.rfl' R
theorem sd_never : SD X fr ns c Wb W W' st sNever := by
  refine ps_weak ps_never fun E σ H q => ?_
  obtain ⟨Hs0, H0, Hs, ρ, n, o, n', R, e, q⟩ := q
  cases e
theorem sd_ret (h : ED X ns c W e f) : SD X ⟨false, wx⟩ ns c Wb W W' (.Return (some e) pos) (sRet f) := by
  refine ps_weak (ps_ret h) fun E σ H q => ?_
  obtain ⟨Hs0, H0, Hs, ρ, n, o, n', R, e, q⟩ := q
  unfold sRet at e
  split at e
  · rename_i d n1 h1
    cases e
    exact ⟨Hs0, H0, Hs, ρ, n, d, _, R, h1, fun v Hs' H' e1 c1 r1 => q v Hs' H' (R.ext.trans R.cel e1) c1 r1⟩
  · cases e
/-- return, all owned lists given up first -/
theorem sd_retF (h : ED X ns c [] e f) : SD X ⟨false, wx⟩ ns c Wb W W' (.Return (some e) pos) (sRet f) := sd_pre (W1 := []) (fun _ h => nomatch h) (sd_ret h)
theorem sd_retN : SD X ⟨false, wx⟩ ns c Wb W W' (.Return none pos) sRetN := by
  refine ps_weak ps_retN fun E σ H q => ?_
  obtain ⟨Hs0, H0, Hs, ρ, n, o, n', R, e, q⟩ := q
  cases e
  exact q .non Hs H R.ext R.cel (.inl .non)
/-- a new list is given back -/
theorem Rel.none1 {K : PySem.W.Frag} {Hs0 H0 Hs H : Hp} {σ : L2.St} {ρ : DEnv} {n : Nat} (R : Rel K ns c W Hs0 H0 Hs H σ ρ n) {p : Addr} (h : H p = none) : H0 p = none := by
  have hc : ∀ q, c = some q → p ≠ q.1 := fun q hq z => by rw [z, R.cel q hq] at h; cases h
  cases e : H0 p with
  | none => rfl
  | some o => rw [R.ext.al p o hc e] at h; cases h
theorem sd_expr (h : ED X ns c W e f) (hs : swapsWith e none pos.line X.env = pure false := by rfl) : SD X fr ns c Wb W W (.Expr e pos) (sDrop f) := by
  refine ps_weak (ps_expr h hs) fun E σ H q => ?_
  obtain ⟨Hs0, H0, Hs, ρ, n, o, n', R, e, q⟩ := q
  unfold sDrop at e
  split at e
  · rename_i d n1 h1
    cases e
    exact ⟨Hs0, H0, Hs, ρ, n, d, _, R, h1, fun v Hs' H' e1 c1 r1 => q σ Hs' H' e1.st (R.step e1 c1)⟩
  · cases e
theorem sd_if {A B : List Stmt} (ht : TD X ns c W k t) (ha : SSD X fr ns c Wb W W' A S) (hb : SSD X fr ns c Wb W W' B T) : SD X fr ns c Wb W W' (.If k A B pos) (sIf t S T) := by
  refine ps_weak (ps_if ht ha hb) fun E σ H q => ?_
  obtain ⟨Hs0, H0, Hs, ρ, n, o, n', R, e, q⟩ := q
  obtain ⟨b, n1, h1, h2⟩ := dIf_some e
  refine ⟨Hs0, H0, Hs, ρ, n, b, n1, R, h1, fun Hs1 H1 e1 c1 => ?_⟩
  have q1 : EndsOk X.K fr ns c Wb W' Hs0 H0 Hs1 n' E o := by
    cases o with
    | nx ρ' => exact fun σ2 Hs2 H2 s2 r2 => q σ2 Hs2 H2 (Same.trans' e1.st s2) r2
    | rt d => exact q
    | bk ρ' => exact fun σ2 Hs2 H2 s2 r2 => q σ2 Hs2 H2 (Same.trans' e1.st s2) r2
    | ct ρ' => exact fun σ2 Hs2 H2 s2 r2 => q σ2 Hs2 H2 (Same.trans' e1.st s2) r2
    | ex x => exact fun cls σ' Hs' H' W1 ρ' hx s2 r2 => q cls σ' Hs' H' W1 ρ' hx (Same.trans' e1.st s2) r2
  rcases h2 with ⟨rfl, h2⟩ | ⟨rfl, h2⟩
  · exact iteT ⟨Hs0, H0, Hs1, ρ, n1, o, n', R.step e1 c1, h2, q1⟩
  · exact iteF ⟨Hs0, H0, Hs1, ρ, n1, o, n', R.step e1 c1, h2, q1⟩

/-! ### stores -/
theorem Rel.store {K : PySem.W.Frag} {Hs0 H0 Hs H : Hp} {σ : L2.St} {ρ : DEnv} {n i : Nat} {v : V} {d : D} (hW : ∀ j ∈ W', j ∈ W) (hi : i ∉ W') (R : Rel K ns c W Hs0 H0 Hs H σ ρ n) (r : SRep K ns c Hs v d) : ∃ Hs', Same Hs Hs' ∧ Rel K ns c W' Hs0 H0 Hs' H (σ.set i (some v)) (ρ.set i (some d)) n := by
  have R1 := R.frz W' hW
  have s1 : Same Hs (frzH W W' σ Hs H) := fun p o e => by
    unfold frzH
    by_cases q : ∃ i, i ∈ W ∧ i ∉ W' ∧ σ[i]? = some (some (.ref p))
    · obtain ⟨j, h1, h2, h3⟩ := q
      obtain ⟨p', vs, ds, a1, a2, a3, a4, a5, a6, a7⟩ := R.own j h1
      rw [a2] at h3
      cases h3
      rw [a5] at e
      cases e
    · rw [if_neg q]; exact e
  refine ⟨_, s1, R1.ext, R1.cel, R1.hc, fun j d' h hj => ?_, fun j hj => ?_, fun j hj l hl hjl p h1 h2 => ?_, by rw [List.length_set, List.length_set]; exact R1.len⟩
  · by_cases q : i = j
    · subst q
      have hl : i < ρ.length := by
        by_cases z : i < ρ.length
        · exact z
        · rw [List.getElem?_eq_none (by rw [List.length_set]; omega)] at h; cases h
      rw [List.getElem?_set_self hl] at h
      cases h
      exact ⟨v, List.getElem?_set_self (by rw [R1.len]; exact hl), r.same s1⟩
    · rw [List.getElem?_set_ne q] at h
      obtain ⟨w, h1, h2⟩ := R1.vars j d' h hj
      exact ⟨w, by rw [List.getElem?_set_ne q]; exact h1, h2⟩
  · have q : i ≠ j := fun z => hi (z ▸ hj)
    obtain ⟨p, vs, ds, a1, a2, a3⟩ := R1.own j hj
    exact ⟨p, vs, ds, by rw [List.getElem?_set_ne q]; exact a1, by rw [List.getElem?_set_ne q]; exact a2, a3⟩
  · have q1 : i ≠ j := fun z => hi (z ▸ hj)
    have q2 : i ≠ l := fun z => hi (z ▸ hl)
    rw [List.getElem?_set_ne q1] at h1
    rw [List.getElem?_set_ne q2] at h2
    exact R1.apart j hj l hl hjl p h1 h2
theorem sd_set {i : Nat} {x : Str} {pos' : Pos} (hN : X.N.Nodup) (hi : X.N[i]? = some x) (hx : Loc X.env.scope x) (he : ED X ns c W e f) (hW : ∀ j ∈ W', j ∈ W := by decide) (hiW : i ∉ W' := by decide) (hs : swapsWith e (some (.Name x pos')) pos.line X.env = pure false := by rfl)
    (hf : X.fn x = true ∨ X.env.scope.names.lookup x = some .local := by first | exact .inl rfl | exact .inr rfl | assumption) : SD X fr ns c Wb W W' (.Assign [.Name x pos'] e pos) (sSet i f) := by
  refine ps_weak (ps_set hN hi hx he hs hf) fun E σ H q => ?_
  obtain ⟨Hs0, H0, Hs, ρ, n, o, n', R, e, q⟩ := q
  unfold sSet at e
  split at e
  · rename_i d n1 h1
    cases e
    refine ⟨Hs0, H0, Hs, ρ, n, d, _, R, h1, fun v Hs' H' e1 c1 r1 => ?_⟩
    obtain ⟨Hs2, s2, R2⟩ := (R.step e1 c1).store hW hiW r1
    exact q _ Hs2 H' (Same.trans' e1.st s2) R2
  · cases e

/-! ### fresh lists -/
/-- an expression that gives a new list -/
def tDF (K : PySem.W.Frag) (ns : List Int) (c : Md) (W : List Nat) (f : DEnv → M D) : TE := fun σ H Q => ∃ Hs0 H0 Hs ρ n ds n', Rel K ns c W Hs0 H0 Hs H σ ρ n ∧ f ρ n = some (.list ds, n') ∧
  ∀ p vs Hs' H', Ext c Hs H Hs' H' → Cel c n' H' → H p = none → Hs' p = none → H' p = some (.lst vs) → RpAll K Hs' vs ds → Q (.ref p) H'
abbrev FD (X : Cx) (ns : List Int) (c : Md) (W : List Nat) (e : Expr) (f : DEnv → M D) : Prop := PE X e (tDF X.K ns c W f)
/-- fresh is stable (the value is a list) -/
theorem Ext.adopt {Hs H Hs' H' : Hp} {p : Addr} {o : HO} (e : Ext c Hs H Hs' H') (h0 : H p = none) (h1 : Hs' p = none) (h2 : H' p = some o) : Ext c Hs H (upd Hs' p o) H' := by
  refine ⟨fun b x h => ?_, e.al, fun b x h => ?_, fun b h => ?_⟩
  · have := e.st b x h
    rw [upd_ne (ne_of_none this h1)]; exact this
  · by_cases q : b = p
    · subst q; rw [upd_same] at h; cases h; exact h2
    · rw [upd_ne q] at h; exact e.sub b x h
  · by_cases q : b = p
    · subst q; exact .inr h0
    · rw [upd_ne q] at h; exact e.new b h
theorem same_upd' {Hs : Hp} {p : Addr} {o : HO} (h : Hs p = none) : Same Hs (upd Hs p o) := fun b x e => by rw [upd_ne (ne_of_none e h)]; exact e
/-- .. and so may be used as one, where the value is known to be a list -/
def fLst (f : DEnv → M D) : DEnv → M D := fun ρ n =>
  match f ρ n with
  | some (.list ds, n') => some (.list ds, n')
  | _ => none
theorem ed_fresh (h : FD X ns c W e f) : ED X ns c W e (fLst f) := by
  refine pe_weak h fun σ H Q q => ?_
  obtain ⟨Hs0, H0, Hs, ρ, n, d, n', R, e, q⟩ := q
  unfold fLst at e
  split at e
  · rename_i ds n1 h1
    cases e
    exact ⟨Hs0, H0, Hs, ρ, n, ds, _, R, h1, fun p vs Hs' H' e1 c1 p0 p1 p2 r1 => q _ _ _ (e1.adopt p0 p1 p2) c1 (.inl (.lst upd_same (RpAll.same (same_upd' p1) _ _ r1)))⟩
  · cases e
theorem Rel.none0 {K : PySem.W.Frag} {Hs0 H0 Hs H : Hp} {σ : L2.St} {ρ : DEnv} {n : Nat} (R : Rel K ns c W Hs0 H0 Hs H σ ρ n) {p : Addr} (h : H p = none) : H0 p = none ∧ ∀ q, c = some q → p ≠ q.1 := by
  have hc : ∀ q, c = some q → p ≠ q.1 := fun q hq z => by rw [z, R.cel q hq] at h; cases h
  refine ⟨?_, hc⟩
  cases e : H0 p with
  | none => rfl
  | some o => rw [R.ext.al p o hc e] at h; cases h
theorem Rel.own1G {K : PySem.W.Frag} {Hs0 H0 Hs H : Hp} {σ : L2.St} {ρ : DEnv} {n i : Nat} {p : Addr} {o : HO} {d : D} (hi : i ∉ W) (hl : i < σ.length) (R : Rel K ns c W Hs0 H0 Hs H σ ρ n) (h0 : H0 p = none) (hcp : ∀ q, c = some q → p ≠ q.1) (h1 : Hs p = none) (h2 : H p = some o) (r : OwnR K Hs p o d)
    (hne : ∀ j ∈ W, σ[j]? ≠ some (some (.ref p))) : Rel K ns c (i :: W) Hs0 H0 Hs H (σ.set i (some (.ref p))) (ρ.set i (some d)) n := by
  have hl' : i < ρ.length := by rw [← R.len]; exact hl
  refine ⟨R.ext, R.cel, R.hc, fun j d' h hj => ?_, fun j hj => ?_, fun j hj l hlm hjl q a1 a2 => ?_, by rw [List.length_set, List.length_set]; exact R.len⟩
  · have q : i ≠ j := fun z => hj (z ▸ List.mem_cons_self)
    rw [List.getElem?_set_ne q] at h ⊢
    exact R.vars j d' h fun z => hj (List.mem_cons_of_mem _ z)
  · rcases List.mem_cons.mp hj with rfl | hj
    · exact ⟨p, o, d, List.getElem?_set_self hl', List.getElem?_set_self hl, h2, r, h1, h0, hcp⟩
    · have q : i ≠ j := fun z => hi (z ▸ hj)
      obtain ⟨p', vs', ds', a1, a2, a3⟩ := R.own j hj
      exact ⟨p', vs', ds', by rw [List.getElem?_set_ne q]; exact a1, by rw [List.getElem?_set_ne q]; exact a2, a3⟩
  · by_cases ej : j = i
    · by_cases el : l = i
      · exact hjl (ej.trans el.symm)
      · have hlm' : l ∈ W := (List.mem_cons.mp hlm).resolve_left el
        rw [ej, List.getElem?_set_self hl] at a1
        cases a1
        rw [List.getElem?_set_ne (Ne.symm el)] at a2
        exact hne l hlm' a2
    · have hj' : j ∈ W := (List.mem_cons.mp hj).resolve_left ej
      rw [List.getElem?_set_ne (Ne.symm ej)] at a1
      by_cases el : l = i
      · rw [el, List.getElem?_set_self hl] at a2
        cases a2
        exact hne j hj' a1
      · have hlm' : l ∈ W := (List.mem_cons.mp hlm).resolve_left el
        rw [List.getElem?_set_ne (Ne.symm el)] at a2
        exact R.apart j hj' l hlm' hjl q a1 a2
/-- x = a new list, owned from here on -/
theorem Rel.own1 {K : PySem.W.Frag} {Hs0 H0 Hs H : Hp} {σ : L2.St} {ρ : DEnv} {n i : Nat} {p : Addr} {vs : List V} {ds : List D} (hi : i ∉ W) (hl : i < σ.length) (R : Rel K ns c W Hs0 H0 Hs H σ ρ n) (h0 : H0 p = none) (hcp : ∀ q, c = some q → p ≠ q.1) (h1 : Hs p = none) (h2 : H p = some (.lst vs)) (r : RpAll K Hs vs ds)
    (hne : ∀ j ∈ W, σ[j]? ≠ some (some (.ref p))) : Rel K ns c (i :: W) Hs0 H0 Hs H (σ.set i (some (.ref p))) (ρ.set i (some (.list ds))) n :=
  R.own1G hi hl h0 hcp h1 h2 (.lst r) hne
theorem sd_own {i : Nat} {x : Str} {pos' : Pos} (hN : X.N.Nodup) (hi : X.N[i]? = some x) (hx : Loc X.env.scope x) (he : FD X ns c W e f) (hiW : i ∉ W := by decide) (hs : swapsWith e (some (.Name x pos')) pos.line X.env = pure false := by rfl)
    (hf : X.fn x = true ∨ X.env.scope.names.lookup x = some .local := by first | exact .inl rfl | exact .inr rfl | assumption) : SD X fr ns c Wb W (i :: W) (.Assign [.Name x pos'] e pos) (sSet i (fLst f)) := by
  refine ⟨fun pins s σ H E I q => (ps_set hN hi hx he hs hf).run pins s σ H E I ?_⟩
  have hlen : i < σ.length := by rw [I.len]; exact (List.getElem?_eq_some_iff.mp hi).1
  obtain ⟨Hs0, H0, Hs, ρ, n, o, n', R, e, q⟩ := q
  unfold sSet fLst at e
  split at e
  · rename_i d n1 h1
    cases e
    split at h1
    · rename_i ds n2 h2
      cases h1
      refine ⟨Hs0, H0, Hs, ρ, n, ds, _, R, h2, fun p vs Hs' H' e1 c1 p0 p1 p2 r1 => ?_⟩
      have R1 := R.step e1 c1
      obtain ⟨z0, zc⟩ := R.none0 p0
      refine q _ Hs' H' e1.st (R1.own1 hiW hlen z0 zc p1 p2 r1 fun j hj z => ?_)
      obtain ⟨p', vs', ds', a1, a2, a3, _⟩ := R.own j hj
      rw [a2] at z
      cases z
      rw [p0] at a3
      cases a3
    · cases h1
  · cases e
theorem fd_lst {A : DEnv → M (List D)} (h : AD X ns c W es A) : FD X ns c W (.List es pos) (dUnA hLst A) := by
  refine pe_weak (pe_lst h) fun σ H Q q => ?_
  obtain ⟨Hs0, H0, Hs, ρ, n, z, n', R, e, q⟩ := q
  obtain ⟨ds, h1, h2⟩ := dUnA_some e
  obtain ⟨⟨p1, p2⟩, e'⟩ := Option.some_of_if h2
  cases e'
  refine ⟨Hs0, H0, Hs, ρ, n, z, n', R, h1, fun vs Hs1 H1 e1 c1 r1 => ⟨by rw [(Paired.length r1 : _ = _), LIM_eq]; exact p2, fun p hp => ?_⟩⟩
  have R1 := R.step e1 c1
  have hsp : Hs1 p = none := by
    cases e : Hs1 p with
    | none => rfl
    | some o => rw [R1.sub p o e] at hp; cases hp
  have hp0 : H p = none := by
    cases e : H p with
    | none => rfl
    | some o =>
      by_cases hc : ∀ q, c = some q → p ≠ q.1
      · rw [e1.al p o hc e] at hp; cases hp
      · exact absurd (fun q hq z => by rw [z, c1 q hq] at hp; cases hp) hc
  refine q p vs Hs1 _ ⟨e1.st, fun b o hb h => ?_, fun b o h => ?_, e1.new⟩ (fun x hx => ?_) hp0 hsp upd_same (rpAll_of p1 r1)
  · rw [upd_ne (ne_of_none (e1.al b o hb h) hp)]; exact e1.al b o hb h
  · rw [upd_ne (ne_of_none (R1.sub b o h) hp)]; exact R1.sub b o h
  · rw [upd_ne (ne_of_none (c1 x hx) hp)]; exact c1 x hx

theorem sd_retNew (h : FD X ns c W e f) : SD X ⟨true, wx⟩ ns c Wb W W' (.Return (some e) pos) (sRet (fLst f)) := by
  refine ps_weak (ps_ret h) fun E σ H q => ?_
  obtain ⟨Hs0, H0, Hs, ρ, n, o, n', R, e, q⟩ := q
  unfold sRet fLst at e
  split at e
  · rename_i d n1 h1
    cases e
    split at h1
    · rename_i ds n2 h2
      cases h1
      exact ⟨Hs0, H0, Hs, ρ, n, ds, _, R, h2, fun p vs Hs' H' e1 c1 p0 p1 p2 r1 => q (.ref p) Hs' H' (R.ext.trans R.cel e1) c1 ⟨p, vs, ds, rfl, rfl, R.none1 p0, p1, p2, r1⟩⟩
    · cases h1
  · cases e
/-- an owned list is given back -/
theorem sd_retOwn {i : Nat} {x : Str} {p1 : Pos} (hi : X.N[i]? = some x) (hv : Vis X.env.scope x) (hiW : i ∈ W := by decide) (hd : (x == ("__debug__" : Str)) = false := by decide) (hcd : (x == ("__classdict__" : Str)) = false := by decide) : SD X ⟨true, wx⟩ ns c Wb W W' (.Return (some (.Name x p1)) pos) (sRet (fLst (dVar i))) := by
  refine ps_weak (ps_ret (pe_var hi hv hd hcd)) fun E σ H q => ?_
  obtain ⟨Hs0, H0, Hs, ρ, n, o, n', R, e, q⟩ := q
  obtain ⟨p, oo, dd, a1, a2, a3, a4, a5, a6, a7⟩ := R.own i hiW
  unfold sRet fLst dVar at e
  rw [a1] at e
  rcases a4 with ⟨vs, ds, g1, g2, a4⟩ | ⟨_, _, _, g1, _⟩
  rotate_left
  · subst g1
    cases e
  subst g1 g2
  cases e
  exact ⟨.ref p, a2, q (.ref p) Hs H R.ext R.cel ⟨p, vs, ds, rfl, rfl, a6, a5, a3, a4⟩⟩
/-! ### owned lists changed -/
theorem Rel.mutG {K : PySem.W.Frag} {Hs0 H0 Hs H : Hp} {σ : L2.St} {ρ : DEnv} {n i : Nat} {p : Addr} {o' : HO} {d' : D} (R : Rel K ns c W Hs0 H0 Hs H σ ρ n) (hi : i ∈ W) (hp : σ[i]? = some (some (.ref p))) (r : OwnR K Hs p o' d') : Rel K ns c W Hs0 H0 Hs (upd H p o') σ (ρ.set i (some d')) n := by
  obtain ⟨p', vs0, ds0, a1, a2, a3, a4, a5, a6, a7⟩ := R.own i hi
  rw [a2] at hp
  cases hp
  have hlρ : i < ρ.length := by
    by_cases z : i < ρ.length
    · exact z
    · rw [List.getElem?_eq_none (by omega)] at a1; cases a1
  refine ⟨⟨R.ext.st, fun b o hb h => ?_, fun b o h => ?_, R.ext.new⟩, fun x hx => ?_, R.hc, fun j d h hj => ?_, fun j hj => ?_, R.apart, by rw [List.length_set]; exact R.len⟩
  · rw [upd_ne (ne_of_none h a6)]; exact R.ext.al b o hb h
  · rw [upd_ne (ne_of_none h a5)]; exact R.sub b o h
  · rw [upd_ne (fun z => a7 x hx z.symm)]; exact R.cel x hx
  · have q : i ≠ j := fun z => hj (z ▸ hi)
    rw [List.getElem?_set_ne q] at h
    exact R.vars j d h hj
  · by_cases q : i = j
    · subst q
      exact ⟨p, o', d', List.getElem?_set_self hlρ, a2, upd_same, r, a5, a6, a7⟩
    · obtain ⟨p2, vs2, ds2, b1, b2, b3, b4, b5, b6, b7⟩ := R.own j hj
      have np : p2 ≠ p := fun z => R.apart i hi j hj q p a2 (z ▸ b2)
      exact ⟨p2, vs2, ds2, by rw [List.getElem?_set_ne q]; exact b1, b2, by rw [upd_ne np]; exact b3, b4, b5, b6, b7⟩
theorem Rel.mut {K : PySem.W.Frag} {Hs0 H0 Hs H : Hp} {σ : L2.St} {ρ : DEnv} {n i : Nat} {p : Addr} {vs vs' : List V} {ds' : List D} (R : Rel K ns c W Hs0 H0 Hs H σ ρ n) (hi : i ∈ W) (hp : σ[i]? = some (some (.ref p))) (r : RpAll K Hs vs' ds') : Rel K ns c W Hs0 H0 Hs (upd H p (.lst vs')) σ (ρ.set i (some (.list ds'))) n :=
  R.mutG hi hp (.lst r)
theorem sMut_some {i : Nat} {h : List D → List D → Option (List D)} {A : DEnv → M (List D)} {ρ : DEnv} {n n' : Nat} {o : Out} (e : sMut i h A ρ n = some (o, n')) : ∃ as ds ds', A ρ n = some (as, n') ∧ ρ[i]? = some (some (.list ds)) ∧ h ds as = some ds' ∧ o = .nx (ρ.set i (some (.list ds'))) := by
  unfold sMut at e
  split at e
  · rename_i as n1 h1
    split at e
    · rename_i ds h2
      split at e
      · rename_i ds' h3
        cases e
        exact ⟨as, ds, ds', h1, h2, h3, rfl⟩
      · cases e
    · cases e
  · cases e
theorem sd_append {i : Nat} {x : Str} {p1 apos cpos spos : Pos} {fs : List (DEnv → M D)} (hi : X.N[i]? = some x) (hv : Vis X.env.scope x) (ha : AD X ns c W [e] (dAs fs)) (hiW : i ∈ W := by decide) (hd : (x == ("__debug__" : Str)) = false := by decide) (hcd : (x == ("__classdict__" : Str)) = false := by decide)
    (hbase : attributeBase (.Name x p1) "append" X.env (eval (.Name x p1) X.env) = eval (.Name x p1) X.env := by rfl)
    (hfew : ((backTo cpos (starEach [e] X.env)).all (fun x => !x.1) && (backToKw cpos (keywordEach [] X.env)).all (fun x => x.1.isSome)
      && decide ([e].length + ([] : List Keyword).length + (if ([] : List Keyword).isEmpty then 0 else 1) < 30)) = true := by rfl)
    (hline : (apos.endLine == cpos.line) = true := by rfl) (hs : starEach [e] X.env = (false, eval e X.env) :: starEach [] X.env := by rfl) (hplain : (backTo cpos (starEach [] X.env)).any (·.1) = false := by rfl)
    (hsw : swapsWith (.Call (.Attribute (.Name x p1) "append" apos) [e] [] cpos) none spos.line X.env = pure false := by rfl) :
    SD X fr ns c Wb W W (.Expr (.Call (.Attribute (.Name x p1) "append" apos) [e] [] cpos) spos) (sMut i hAppend (dAs fs)) := by
  refine ps_weak (ps_expr (pe_bm PySem.F.plainAttrs_list PySem.F.slot_list_append PySem.F.type_list_append mt_append (pe_var hi hv hd hcd) ha hbase hfew hline hs hplain) hsw) fun E σ H q => ?_
  obtain ⟨Hs0, H0, Hs, ρ, n, o, n', R, e, q⟩ := q
  obtain ⟨as, ds, ds', h1, h2, h3, rfl⟩ := sMut_some e
  obtain ⟨p, vs, ds0, a1, a2, a3, a4, a5, a6, a7⟩ := R.ownL hiW h2
  rw [h2] at a1
  cases a1
  refine ⟨.ref p, a2, .inl ⟨rfl, vs, SqL.of a3⟩, ?_⟩
  refine ⟨Hs0, H0, Hs, ρ, n, as, n', R, h1, fun ws Hs1 H1 e1 c1 r1 => ?_⟩
  have R1 := R.step e1 c1
  unfold hAppend at h3
  split at h3
  · obtain ⟨⟨t1, t2⟩, rfl⟩ := Option.some_of_if h3
    obtain ⟨w, rfl, rw'⟩ := pr1 r1
    obtain ⟨p', vs', ds1, b1, b2, b3, b4, b5, b6, b7⟩ := R1.ownL hiW h2
    rw [a2] at b2
    cases b2
    rw [h2] at b1
    cases b1
    refine ⟨p, vs', w, rfl, rfl, b3, by rw [b4.length, LIM_eq]; exact t2, ?_⟩
    exact q _ Hs1 _ e1.st (R1.mut (vs := vs') hiW a2 (b4.append (RpAll.one (rw'.rp (noDict_of t1)))))
  · cases h3
theorem sd_extend {i : Nat} {x : Str} {p1 apos cpos spos : Pos} {fs : List (DEnv → M D)} (hi : X.N[i]? = some x) (hv : Vis X.env.scope x) (ha : AD X ns c W [e] (dAs fs)) (hiW : i ∈ W := by decide) (hd : (x == ("__debug__" : Str)) = false := by decide) (hcd : (x == ("__classdict__" : Str)) = false := by decide)
    (hbase : attributeBase (.Name x p1) "extend" X.env (eval (.Name x p1) X.env) = eval (.Name x p1) X.env := by rfl)
    (hfew : ((backTo cpos (starEach [e] X.env)).all (fun x => !x.1) && (backToKw cpos (keywordEach [] X.env)).all (fun x => x.1.isSome)
      && decide ([e].length + ([] : List Keyword).length + (if ([] : List Keyword).isEmpty then 0 else 1) < 30)) = true := by rfl)
    (hline : (apos.endLine == cpos.line) = true := by rfl) (hs : starEach [e] X.env = (false, eval e X.env) :: starEach [] X.env := by rfl) (hplain : (backTo cpos (starEach [] X.env)).any (·.1) = false := by rfl)
    (hsw : swapsWith (.Call (.Attribute (.Name x p1) "extend" apos) [e] [] cpos) none spos.line X.env = pure false := by rfl) :
    SD X fr ns c Wb W W (.Expr (.Call (.Attribute (.Name x p1) "extend" apos) [e] [] cpos) spos) (sMut i hExtend (dAs fs)) := by
  refine ps_weak (ps_expr (pe_bm PySem.F.plainAttrs_list PySem.F.slot_list_extend PySem.F.type_list_extend mt_extend (pe_var hi hv hd hcd) ha hbase hfew hline hs hplain) hsw) fun E σ H q => ?_
  obtain ⟨Hs0, H0, Hs, ρ, n, o, n', R, e, q⟩ := q
  obtain ⟨as, ds, ds', h1, h2, h3, rfl⟩ := sMut_some e
  obtain ⟨p, vs, ds0, a1, a2, a3, a4, a5, a6, a7⟩ := R.ownL hiW h2
  rw [h2] at a1
  cases a1
  refine ⟨.ref p, a2, .inl ⟨rfl, vs, SqL.of a3⟩, ?_⟩
  refine ⟨Hs0, H0, Hs, ρ, n, as, n', R, h1, fun ws Hs1 H1 e1 c1 r1 => ?_⟩
  have R1 := R.step e1 c1
  unfold hExtend at h3
  split at h3
  · obtain ⟨t2, rfl⟩ := Option.some_of_if h3
    obtain ⟨w, rfl, rw'⟩ := pr1 r1
    obtain ⟨b, zs, rfl, z1, z2⟩ := rw'.list
    obtain ⟨p', vs', ds1, b1, b2, b3, b4, b5, b6, b7⟩ := R1.ownL hiW h2
    rw [a2] at b2
    cases b2
    rw [h2] at b1
    cases b1
    refine ⟨p, b, vs', zs, rfl, rfl, b3, R1.sub _ _ z1, by rw [b4.length, z2.length, LIM_eq]; exact t2, ?_⟩
    exact q _ Hs1 _ e1.st (R1.mut (vs := vs') hiW a2 (b4.append z2))
  · cases h3
end
end DL
/-! DLe: targets, iterables, for, while, comprehensions, defs. -/
namespace DL
open PySem PySem.Spec PyProof.Rows L2

/-! ### targets -/
abbrev TgD := D → DEnv → Option DEnv
def gNm (i : Nat) : TgD := fun d ρ => if noDict d = true then some (ρ.set i (some d)) else none
def gAll : List TgD → List D → DEnv → Option DEnv
  | [], [], ρ => some ρ
  | g :: gs, d :: ds, ρ => match g d ρ with
    | some ρ' => gAll gs ds ρ'
    | none => none
  | _, _, _ => none
def gTp (gs : List TgD) : TgD := fun d ρ => match d with
  | .tuple ds => gAll gs ds ρ
  | _ => none
/-- a store to the slots ts alone -/
structure Only (ts : List Nat) (σ σ' : L2.St) : Prop where
  len : σ'.length = σ.length
  out : ∀ j, j ∉ ts → σ'[j]? = σ[j]?
theorem Only.refl {ts : List Nat} {σ : L2.St} : Only ts σ σ := ⟨rfl, fun _ _ => rfl⟩
theorem Only.trans {ts : List Nat} {σ σ1 σ2 : L2.St} (a : Only ts σ σ1) (b : Only ts σ1 σ2) : Only ts σ σ2 := ⟨b.len.trans a.len, fun j hj => (b.out j hj).trans (a.out j hj)⟩
theorem Only.mono {ts us : List Nat} {σ σ1 : L2.St} (a : Only ts σ σ1) (h : ∀ j ∈ ts, j ∈ us) : Only us σ σ1 := ⟨a.len, fun j hj => a.out j fun z => hj (h j z)⟩
theorem Only.set {i : Nat} {v : Option V} {σ : L2.St} : Only [i] σ (σ.set i v) := ⟨List.length_set, fun j hj => List.getElem?_set_ne fun (z : i = j) => hj (by rw [z]; exact List.mem_cons_self)⟩
def tDG (K : PySem.W.Frag) (ns : List Int) (c : Md) (W : List Nat) (ts : List Nat) (g : TgD) : TG := fun v σ H Q => ∃ Hs0 H0 Hs ρ n d ρ', Rel K ns c W Hs0 H0 Hs H σ ρ n ∧ Rp K Hs v d ∧ g d ρ = some ρ' ∧
  ∀ σ' , Only ts σ σ' → Rel K ns c W Hs0 H0 Hs H σ' ρ' n → Q σ' H
def tDGs (K : PySem.W.Frag) (ns : List Int) (c : Md) (W : List Nat) (ts : List Nat) (gs : List TgD) : TGs := fun vs σ H Q => ∃ Hs0 H0 Hs ρ n ds ρ', Rel K ns c W Hs0 H0 Hs H σ ρ n ∧ RpAll K Hs vs ds ∧ gAll gs ds ρ = some ρ' ∧
  ∀ σ' , Only ts σ σ' → Rel K ns c W Hs0 H0 Hs H σ' ρ' n → Q σ' H
abbrev GD (X : Cx) (ns : List Int) (c : Md) (W : List Nat) (ts : List Nat) (e : Expr) (g : TgD) : Prop := PG X e (tDG X.K ns c W ts g)
abbrev GsD (X : Cx) (ns : List Int) (c : Md) (W : List Nat) (ts : List Nat) (es : List Expr) (gs : List TgD) : Prop := PGs X es (tDGs X.K ns c W ts gs)
theorem pg_weak {X : Cx} {e : Expr} {t t' : TG} (h : PG X e t) (w : ∀ v σ H Q, t' v σ H Q → t v σ H Q) : PG X e t' := ⟨fun pins s σ H v u Q I r q => h.run pins s σ H v u Q I r (w v σ H Q q)⟩
theorem pgs_weak {X : Cx} {e : List Expr} {t t' : TGs} (h : PGs X e t) (w : ∀ v σ H Q, t' v σ H Q → t v σ H Q) : PGs X e t' := ⟨fun pins s σ H v u Q I r q => h.run pins s σ H v u Q I r (w v σ H Q q)⟩
theorem Rel.store1 {K : PySem.W.Frag} {ns : List Int} {c : Md} {W : List Nat} {Hs0 H0 Hs H : Hp} {σ : L2.St} {ρ : DEnv} {n i : Nat} {v : V} {d : D} (hi : i ∉ W) (R : Rel K ns c W Hs0 H0 Hs H σ ρ n) (r : SRep K ns c Hs v d) : Rel K ns c W Hs0 H0 Hs H (σ.set i (some v)) (ρ.set i (some d)) n := by
  refine ⟨R.ext, R.cel, R.hc, fun j d' h hj => ?_, fun j hj => ?_, fun j hj l hl hjl p h1 h2 => ?_, by rw [List.length_set, List.length_set]; exact R.len⟩
  · by_cases q : i = j
    · subst q
      have hl : i < ρ.length := by
        by_cases z : i < ρ.length
        · exact z
        · rw [List.getElem?_eq_none (by rw [List.length_set]; omega)] at h; cases h
      rw [List.getElem?_set_self hl] at h
      cases h
      exact ⟨v, List.getElem?_set_self (by rw [R.len]; exact hl), r⟩
    · rw [List.getElem?_set_ne q] at h ⊢
      exact R.vars j d' h hj
  · have q : i ≠ j := fun z => hi (z ▸ hj)
    obtain ⟨p, vs, ds, a1, a2, a3⟩ := R.own j hj
    exact ⟨p, vs, ds, by rw [List.getElem?_set_ne q]; exact a1, by rw [List.getElem?_set_ne q]; exact a2, a3⟩
  · have q1 : i ≠ j := fun z => hi (z ▸ hj)
    have q2 : i ≠ l := fun z => hi (z ▸ hl)
    rw [List.getElem?_set_ne q1] at h1
    rw [List.getElem?_set_ne q2] at h2
    exact R.apart j hj l hl hjl p h1 h2
section
variable {X : Cx} {fr : FR} {ns : List Int} {c : Md} {W W' W1 W2 Wb : List Nat} {a b e k tg iter : Expr} {es : List Expr} {f g u : DEnv → M D} {pos : Pos} {st : Stmt} {rest : List Stmt} {S T : SDen} {t : DEnv → M Bool}
theorem gd_name {i : Nat} {x : Str} (hN : X.N.Nodup) (hi : X.N[i]? = some x) (hx : Loc X.env.scope x) (hiW : i ∉ W := by decide) (hf : X.fn x = true ∨ X.env.scope.names.lookup x = some .local := by first | exact .inl rfl | exact .inr rfl | assumption) : GD X ns c W [i] (.Name x pos) (gNm i) := by
  refine pg_weak (pg_name hN hi hx hf) fun v σ H Q q => ?_
  obtain ⟨Hs0, H0, Hs, ρ, n, d, ρ', R, r, e, q⟩ := q
  obtain ⟨_, rfl⟩ := Option.some_of_if e
  exact q _ Only.set (R.store1 hiW (.inl r))
theorem gsd_nil : GsD X ns c W [] [] [] := by
  refine pgs_weak pgs_nil fun v σ H Q q => ?_
  obtain ⟨Hs0, H0, Hs, ρ, n, d, ρ', R, r, e, q⟩ := q
  cases r with
  | nil =>
    cases e
    exact ⟨rfl, q σ Only.refl R⟩
  | cons _ _ => cases e
theorem gsd_cons {ts us : List Nat} {g : TgD} {gs : List TgD} (h1 : GD X ns c W ts e g) (h2 : GsD X ns c W us es gs) (hs : (assignEach (e :: es) X.env).map (·.2) = assign e X.env :: (assignEach es X.env).map (·.2) := by rfl) : GsD X ns c W (ts ++ us) (e :: es) (g :: gs) := by
  refine pgs_weak (pgs_cons h1 h2 hs) fun vs σ H Q q => ?_
  obtain ⟨Hs0, H0, Hs, ρ, n, ds, ρ', R, r, e, q⟩ := q
  cases r with
  | nil => cases e
  | cons r1 r2 =>
    rename_i v vs d ds
    unfold gAll at e
    split at e
    · rename_i ρ1 e1
      refine ⟨v, vs, rfl, Hs0, H0, Hs, ρ, n, d, ρ1, R, r1, e1, fun σ1 o1 R1 => ?_⟩
      exact ⟨Hs0, H0, Hs, ρ1, n, ds, ρ', R1, r2, e, fun σ2 o2 R2 => q σ2 ((o1.mono fun _ h => List.mem_append_left _ h).trans (o2.mono fun _ h => List.mem_append_right _ h)) R2⟩
    · cases e
theorem gAll_len : ∀ {gs : List TgD} {ds : List D} {ρ ρ' : DEnv}, gAll gs ds ρ = some ρ' → ds.length = gs.length
  | [], [], _, _, _ => rfl
  | _ :: gs, _ :: ds, _, _, h => by
    unfold gAll at h
    split at h
    · rw [List.length_cons, List.length_cons, gAll_len h]
    · cases h
  | [], _ :: _, _, _, h => by unfold gAll at h; cases h
  | _ :: _, [], _, _, h => by unfold gAll at h; cases h
theorem gd_tup {ts : List Nat} {gs : List TgD} {kk : Nat} (hc : X.calm = true) (h : GsD X ns c W ts es gs) (hl : gs.length = es.length := by rfl) (hn : (assignEach es X.env).length = es.length := by rfl) (hst : (assignEach es X.env).findIdx? (·.1) = none := by rfl) : GD X ns c W ts (.Tuple es kk pos) (gTp gs) := by
  refine pg_weak (pg_tup (n := es.length) hc h hn hst) fun v σ H Q q => ?_
  obtain ⟨Hs0, H0, Hs, ρ, n, d, ρ', R, r, e, q⟩ := q
  unfold gTp at e
  split at e
  · cases r with
    | tup h1 r1 =>
      exact ⟨_, _, rfl, Same.seqT R.sub h1, by rw [r1.length, gAll_len e, hl], Hs0, H0, Hs, ρ, n, _, ρ', R, r1, e, q⟩
  · cases e
/-- target = value -/
def sAsg (g : TgD) (f : DEnv → M D) : SDen := fun ρ n =>
  match f ρ n with
  | some (d, n') => if noDict d = true then match g d ρ with
    | some ρ' => some (.nx ρ', n')
    | none => none
    else none
  | none => none
theorem sd_asg {ts : List Nat} {g : TgD} (he : ED X ns c W e f) (hg : GD X ns c W ts tg g) (hs : swapsWithSole [tg] e pos.line X.env = pure false := by rfl) (hw : swappedStores [tg] e X.env = pure none := by rfl)
    (h1 : (assignEach [tg] X.env).map (·.2) = [assign tg X.env] := by rfl) : SD X fr ns c Wb W W (.Assign [tg] e pos) (sAsg g f) := by
  refine ps_weak (ps_asg he hg hs hw h1) fun E σ H q => ?_
  obtain ⟨Hs0, H0, Hs, ρ, n, o, n', R, e, q⟩ := q
  unfold sAsg at e
  split at e
  · rename_i d n1 h1
    split at e
    · rename_i hd
      split at e
      · rename_i ρ1 h2
        cases e
        refine ⟨Hs0, H0, Hs, ρ, n, d, _, R, h1, fun v Hs' H' e1 c1 r1 => ?_⟩
        exact ⟨Hs0, H0, Hs', ρ, _, d, ρ1, R.step e1 c1, r1.rp (noDict_of hd), h2, fun σ' _ R' => q σ' Hs' H' e1.st R'⟩
      · cases e
    · cases e
  · cases e
/-- a, b = x, y (plain locals) -/
def sPar (i j : Nat) (A : DEnv → M (List D)) : SDen := fun ρ n =>
  match A ρ n with
  | some ([d, e], n') => some (.nx ((ρ.set i (some d)).set j (some e)), n')
  | _ => none
theorem sd_par {i j : Nat} {x y : Str} {A : DEnv → M (List D)} {px py pt : Pos} {kt k2 pt2} (hc : X.calm = true) (hN : X.N.Nodup) (hi : X.N[i]? = some x) (hj : X.N[j]? = some y) (hij : i ≠ j)
    (hx : X.env.scope.names.lookup x = some .local) (hy : X.env.scope.names.lookup y = some .local) (ha : AD X ns c W [a, b] A)
    (hw : swappedStores [.Tuple [.Name x px, .Name y py] kt pt] (.Tuple [a, b] k2 pt2) X.env = pure (some [x, y])) (hiW : i ∉ W := by decide) (hjW : j ∉ W := by decide)
    (hs : swapsWithSole [.Tuple [.Name x px, .Name y py] kt pt] (.Tuple [a, b] k2 pt2) pos.line X.env = pure false := by rfl) :
    SD X fr ns c Wb W W (.Assign [.Tuple [.Name x px, .Name y py] kt pt] (.Tuple [a, b] k2 pt2) pos) (sPar i j A) := by
  refine ps_weak (ps_par hc hN hi hj hij hx hy ha hw hs) fun E σ H q => ?_
  obtain ⟨Hs0, H0, Hs, ρ, n, o, n', R, e, q⟩ := q
  unfold sPar at e
  split at e
  · rename_i d e' n1 h1
    cases e
    refine ⟨Hs0, H0, Hs, ρ, n, _, _, R, h1, fun vs Hs' H' e1 c1 r1 => ?_⟩
    obtain ⟨v, w, rfl, r2, r3⟩ := pr2 r1
    exact ⟨v, w, rfl, q _ Hs' H' e1.st (((R.step e1 c1).store1 hiW r2).store1 hjW r3)⟩
  · cases e
theorem pr3 {α β : Type} {F : α → β → Prop} {l : List α} {d e f : β} (h : Paired F l [d, e, f]) : ∃ v w u, l = [v, w, u] ∧ F v d ∧ F w e ∧ F u f := by
  cases h with
  | cons r t =>
    obtain ⟨w, u, rfl, q, q2⟩ := pr2 t
    exact ⟨_, w, u, rfl, r, q, q2⟩
def sPar3 (i j l : Nat) (A : DEnv → M (List D)) : SDen := fun ρ n =>
  match A ρ n with
  | some ([d, e, f], n') => some (.nx (((ρ.set i (some d)).set j (some e)).set l (some f)), n')
  | _ => none
theorem sd_par3 {i j l : Nat} {x y z : Str} {A : DEnv → M (List D)} {px py pz pt : Pos} {kt k2 pt2} (hc : X.calm = true) (hN : X.N.Nodup) (hi : X.N[i]? = some x) (hj : X.N[j]? = some y) (hl : X.N[l]? = some z) (hij : i ≠ j) (hil : i ≠ l) (hjl : j ≠ l)
    (hx : X.env.scope.names.lookup x = some .local) (hy : X.env.scope.names.lookup y = some .local) (hz : X.env.scope.names.lookup z = some .local) (ha : AD X ns c W [a, b, e] A)
    (hw : swappedStores [.Tuple [.Name x px, .Name y py, .Name z pz] kt pt] (.Tuple [a, b, e] k2 pt2) X.env = pure (some [x, y, z])) (hiW : i ∉ W := by decide) (hjW : j ∉ W := by decide) (hlW : l ∉ W := by decide)
    (hs : swapsWithSole [.Tuple [.Name x px, .Name y py, .Name z pz] kt pt] (.Tuple [a, b, e] k2 pt2) pos.line X.env = pure false := by rfl) :
    SD X fr ns c Wb W W (.Assign [.Tuple [.Name x px, .Name y py, .Name z pz] kt pt] (.Tuple [a, b, e] k2 pt2) pos) (sPar3 i j l A) := by
  refine ps_weak (ps_par3 hc hN hi hj hl hij hil hjl hx hy hz ha hw hs) fun E σ H q => ?_
  obtain ⟨Hs0, H0, Hs, ρ, n, o, n', R, e, q⟩ := q
  unfold sPar3 at e
  split at e
  · rename_i d e' f' n1 h1
    cases e
    refine ⟨Hs0, H0, Hs, ρ, n, _, _, R, h1, fun vs Hs' H' e1 c1 r1 => ?_⟩
    obtain ⟨v, w, u, rfl, r2, r3, r4⟩ := pr3 r1
    exact ⟨v, w, u, rfl, q _ Hs' H' e1.st ((((R.step e1 c1).store1 hiW r2).store1 hjW r3).store1 hlW r4)⟩
  · cases e
/-- x op= e -/
def sAug (i : Nat) (h : D → D → Option D) (f : DEnv → M D) : SDen := sSet i (dBin h (dVar i) f)
theorem sd_aug {i : Nat} {x : Str} {op : Operator} {ti : TIp} {h : D → D → Option D} {pos' : Pos} (hN : X.N.Nodup) (hi : X.N[i]? = some x) (hx : X.env.scope.names.lookup x = some .local ∨ X.env.scope.names.lookup x = some .cell) (hp : PS X (.AugAssign (.Name x pos') op e pos) (tAug i (tD X.K ns c W f) ti)) (hh : R2D X.K ti h) (hiW : i ∉ W := by decide) :
    SD X fr ns c Wb W W (.AugAssign (.Name x pos') op e pos) (sAug i h f) := by
  refine ps_weak hp fun E σ H q => ?_
  obtain ⟨Hs0, H0, Hs, ρ, n, o, n', R, e, q⟩ := q
  unfold sAug sSet at e
  split at e
  · rename_i d n1 h1
    cases e
    obtain ⟨x1, n2, y1, e1, e2, e3⟩ := dBin_some h1
    unfold dVar at e1
    split at e1
    · rename_i d' hρ
      cases e1
      obtain ⟨v, a1, a2⟩ := R.vars i _ hρ hiW
      refine ⟨v, a1, Hs0, H0, Hs, ρ, _, y1, _, R, e2, fun w Hs1 H1 e4 c4 r4 => ?_⟩
      have R1 := R.step e4 c4
      refine hh ns c Hs1 H1 v w x1 y1 d _ R1.sub (a2.same e4.st) r4 e3 fun z Hs2 H2 e5 r5 => ?_
      exact q _ Hs2 H2 (Same.trans' e4.st e5.st) ((R1.stepP e5).store1 hiW (.inl r5))
    · cases e1
  · cases e
theorem r2_ipadd {K : PySem.W.Frag} : R2D K (ipI fun i j => i + j) (fun x y => match x, y with | .int i, .int j => some (.int (i + j)) | _, _ => none) :=
  r2_int (fun x y z h => by cases x <;> cases y <;> first | exact ⟨_, _, rfl, rfl⟩ | cases h) fun i j z H Q h q => by cases h; exact ⟨i, j, rfl, rfl, q _ fun _ _ => .int _⟩
theorem r2_ipsub {K : PySem.W.Frag} : R2D K (ipI fun i j => i - j) hSubI :=
  r2_int (fun x y z h => by cases x <;> cases y <;> first | exact ⟨_, _, rfl, rfl⟩ | cases h) fun i j z H Q h q => by cases h; exact ⟨i, j, rfl, rfl, q _ fun _ _ => .int _⟩

/-! ### what a loop walks -/
/-- J gives items that stand for ds, from the stable heap Hs on -/
structure WalkD (K : PySem.W.Frag) (J : It) (ds : List D) (Hs : Hp) : Prop where
  goes : ∀ i H, Same Hs H → i < ds.length → J.go i H
  stops : ∀ H, Same Hs H → J.stop ds.length H
  yields : ∀ i Hs2 H2 x H3 d, Same Hs Hs2 → Same Hs2 H2 → ds[i]? = some d → J.yld i H2 x H3 → ∃ Hs3, ExtP Hs2 H2 Hs3 H3 ∧ Rp K Hs3 x d
def tDI (K : PySem.W.Frag) (ns : List Int) (c : Md) (W : List Nat) (it : DEnv → M (List D)) : TI := fun σ H R => ∃ Hs0 H0 Hs ρ n ds n', Rel K ns c W Hs0 H0 Hs H σ ρ n ∧ it ρ n = some (ds, n') ∧
  ∀ J Hs' H', Ext c Hs H Hs' H' → Cel c n' H' → WalkD K J ds Hs' → R J H'
abbrev ID (X : Cx) (ns : List Int) (c : Md) (W : List Nat) (tg iter : Expr) (it : DEnv → M (List D)) : Prop := PI X tg iter (tDI X.K ns c W it)
theorem pi_weak {X : Cx} {tg iter : Expr} {t t' : TI} (h : PI X tg iter t) (w : ∀ σ H Q, t' σ H Q → t σ H Q) : PI X tg iter t' := ⟨fun pins s σ H Q I q => h.run pins s σ H Q I (w σ H Q q)⟩
theorem WalkD.same {K : PySem.W.Frag} {J : It} {ds : List D} {Hs Hs' : Hp} (w : WalkD K J ds Hs) (s : Same Hs Hs') : WalkD K J ds Hs' :=
  ⟨fun i H h => w.goes i H (Same.trans' s h), fun H h => w.stops H (Same.trans' s h), fun i Hs2 H2 x H3 d h => w.yields i Hs2 H2 x H3 d (Same.trans' s h)⟩
theorem walkD_at {K : PySem.W.Frag} {J : It} {vs : List V} {ds : List D} {G : Hp → Prop} {Hs : Hp} (w : Walk J vs.length G (YAt vs)) (hG : ∀ H, Same Hs H → G H) (r : RpAll K Hs vs ds) : WalkD K J ds Hs := by
  have hl := r.length
  refine ⟨fun i H s h => w.goes i H (by omega) (hG H s), fun H s => by rw [← hl]; exact w.stops H (hG H s), fun i Hs2 H2 x H3 d s1 s2 hd y => ?_⟩
  have hi : i < ds.length := (List.getElem?_eq_some_iff.mp hd).1
  obtain ⟨rfl, hx⟩ := w.yields i H2 x H3 (by omega) (hG H2 (Same.trans' s1 s2)) y
  obtain ⟨d', h1, h2⟩ := r.get hx
  rw [hd] at h1
  cases h1
  exact ⟨Hs2, ExtP.refl s2, Rp.same s1 _ _ h2⟩
theorem walkD_pair {K : PySem.W.Frag} {J : It} {m : Nat} {xs ys : Nat → Option V} {ds : List D} {G : Hp → Prop} {Hs : Hp} (w : Walk J m G (YPair xs ys)) (hm : m = ds.length) (hG : ∀ H, Same Hs H → G H)
    (r : ∀ i d, ds[i]? = some d → ∃ a b, d = .tuple [a, b] ∧ (∀ x, xs i = some x → Rp K Hs x a) ∧ (∀ y, ys i = some y → Rp K Hs y b)) : WalkD K J ds Hs := by
  subst hm
  refine ⟨fun i H s h => w.goes i H h (hG H s), fun H s => w.stops H (hG H s), fun i Hs2 H2 x H3 d s1 s2 hd y => ?_⟩
  have hi : i < ds.length := (List.getElem?_eq_some_iff.mp hd).1
  obtain ⟨T, v1, v2, rfl, hT, rfl, e1, e2⟩ := w.yields i H2 x H3 hi (hG H2 (Same.trans' s1 s2)) y
  obtain ⟨a, b, rfl, f1, f2⟩ := r i d hd
  have e := ExtP.new1 (o := .tup [v1, v2]) s2 hT
  have s3 := Same.trans' s1 e.st
  exact ⟨_, e, .tup (SqT.of upd_same) (.cons (Rp.same s3 _ _ (f1 _ e1)) (.cons (Rp.same s3 _ _ (f2 _ e2)) .nil))⟩
/-- over a list, over a tuple -/
def iL (f : DEnv → M D) : DEnv → M (List D) := fun ρ n =>
  match f ρ n with
  | some (.list ds, n') => some (ds, n')
  | _ => none
def iT (f : DEnv → M D) : DEnv → M (List D) := fun ρ n =>
  match f ρ n with
  | some (.tuple ds, n') => some (ds, n')
  | _ => none
theorem id_list (h : ED X ns c W e f) : ID X ns c W tg e (iL f) := by
  refine pi_weak (pi_list h) fun σ H R q => ?_
  obtain ⟨Hs0, H0, Hs, ρ, n, ds, n', r, e, q⟩ := q
  unfold iL at e
  split at e
  · rename_i ds' n1 h1
    cases e
    refine ⟨Hs0, H0, Hs, ρ, n, _, _, r, h1, fun v Hs' H' e1 c1 r1 => ?_⟩
    obtain ⟨a, xs, rfl, h2, r2⟩ := r1.list
    have sb := (r.step e1 c1).sub
    exact ⟨a, rfl, ⟨xs, SqL.of (sb _ _ h2)⟩, q _ Hs' H' e1 c1 (walkD_at walk_list (fun H s => SqL.of (s _ _ h2)) r2)⟩
  · cases e
theorem id_tup (h : ED X ns c W e f) : ID X ns c W tg e (iT f) := by
  refine pi_weak (pi_tup h) fun σ H R q => ?_
  obtain ⟨Hs0, H0, Hs, ρ, n, ds, n', r, e, q⟩ := q
  unfold iT at e
  split at e
  · rename_i ds' n1 h1
    cases e
    refine ⟨Hs0, H0, Hs, ρ, n, _, _, r, h1, fun v Hs' H' e1 c1 r1 => ?_⟩
    obtain ⟨a, xs, rfl, h2, r2⟩ := r1.tuple
    have sb := (r.step e1 c1).sub
    exact ⟨a, rfl, ⟨xs, Same.seqT sb h2⟩, q _ Hs' H' e1 c1 (walkD_at walk_tup (fun H s => Same.seqT s h2) r2)⟩
  · cases e
/-- over a range -/
def rangeD (lo : Int) (n : Nat) : List D := (List.range n).map fun i => .int (lo + (i : Nat))
def iR1 (A : DEnv → M (List D)) : DEnv → M (List D) := fun ρ n =>
  match A ρ n with
  | some ([.int j], n') => if -(2 ^ 62) ≤ j ∧ j < 2 ^ 62 then some (rangeD 0 j.toNat, n') else none
  | _ => none
def iR2 (A : DEnv → M (List D)) : DEnv → M (List D) := fun ρ n =>
  match A ρ n with
  | some ([.int i, .int j], n') => if -(2 ^ 62) ≤ i ∧ i < 2 ^ 62 ∧ -(2 ^ 62) ≤ j ∧ j < 2 ^ 62 then some (rangeD i (j - i).toNat, n') else none
  | _ => none
theorem rangeD_len {lo : Int} {n : Nat} : (rangeD lo n).length = n := by unfold rangeD; simp
theorem walkD_range {K : PySem.W.Frag} {lo : Int} {n : Nat} {Hs : Hp} : WalkD K (Itr lo n) (rangeD lo n) Hs := by
  refine ⟨fun i H s h => by rw [rangeD_len] at h; exact h, fun H s => by rw [rangeD_len]; exact Nat.le_refl _, fun i Hs2 H2 x H3 d s1 s2 hd y => ?_⟩
  obtain ⟨rfl, rfl⟩ := y
  unfold rangeD at hd
  rw [List.getElem?_map] at hd
  cases e : (List.range n)[i]? with
  | none => rw [e] at hd; cases hd
  | some j =>
    rw [e] at hd
    cases hd
    have : j = i := by
      rw [List.getElem?_range] at e
      · exact (Option.some.inj e).symm
      · have := (List.getElem?_eq_some_iff.mp e).1
        simpa using this
    subst this
    exact ⟨Hs2, ExtP.refl s2, .int _⟩
variable {p : Pos} {A : DEnv → M (List D)}
theorem id_range1 (hg : Gl X "range") (hm : X.mg "range" = none) (ha : AD X ns c W [a] A) (hr : PI X tg (.Call (.Name "range" p) [a] [] pos) (iRng1 (tDA X.K ns c W A))) : ID X ns c W tg (.Call (.Name "range" p) [a] [] pos) (iR1 A) := by
  refine pi_weak hr fun σ H R q => ?_
  obtain ⟨Hs0, H0, Hs, ρ, n, ds, n', r, e, q⟩ := q
  unfold iR1 at e
  split at e
  · rename_i j n1 h1
    obtain ⟨⟨p1, p2⟩, e'⟩ := Option.some_of_if e
    cases e'
    refine ⟨Hs0, H0, Hs, ρ, n, _, _, r, h1, fun vs Hs' H' e1 c1 r1 => ?_⟩
    obtain ⟨v, rfl, rv⟩ := pr1 r1
    exact ⟨j, by rw [rv.int], p1, p2, q _ Hs' H' e1 c1 walkD_range⟩
  · cases e
theorem id_range2 (hg : Gl X "range") (hm : X.mg "range" = none) (ha : AD X ns c W [a, b] A) (hr : PI X tg (.Call (.Name "range" p) [a, b] [] pos) (iRng2 (tDA X.K ns c W A))) : ID X ns c W tg (.Call (.Name "range" p) [a, b] [] pos) (iR2 A) := by
  refine pi_weak hr fun σ H R q => ?_
  obtain ⟨Hs0, H0, Hs, ρ, n, ds, n', r, e, q⟩ := q
  unfold iR2 at e
  split at e
  · rename_i i j n1 h1
    obtain ⟨p1, e'⟩ := Option.some_of_if e
    cases e'
    refine ⟨Hs0, H0, Hs, ρ, n, _, _, r, h1, fun vs Hs' H' e1 c1 r1 => ?_⟩
    obtain ⟨v, w, rfl, rv, rw'⟩ := pr2 r1
    exact ⟨i, j, by rw [rv.int, rw'.int], p1, q _ Hs' H' e1 c1 walkD_range⟩
  · cases e
/-- enumerate of a list -/
def enumD : Nat → List D → List D
  | _, [] => []
  | i, d :: ds => .tuple [.int i, d] :: enumD (i + 1) ds
theorem enumD_get : ∀ {ds : List D} {k i : Nat} {d : D}, (enumD k ds)[i]? = some d → ∃ x, ds[i]? = some x ∧ d = .tuple [.int ((k + i : Nat) : Int), x]
  | [], _, _, _, h => by unfold enumD at h; simp at h
  | x :: ds, k, 0, d, h => by
    unfold enumD at h
    simp at h
    exact ⟨x, rfl, h.symm⟩
  | x :: ds, k, i + 1, d, h => by
    unfold enumD at h
    obtain ⟨y, h1, h2⟩ := enumD_get (k := k + 1) (i := i) (by simpa using h)
    refine ⟨y, by simpa using h1, ?_⟩
    rw [h2]
    congr 3
    omega
theorem enumD_len : ∀ {ds : List D} {k : Nat}, (enumD k ds).length = ds.length
  | [], _ => rfl
  | _ :: ds, k => by unfold enumD; rw [List.length_cons, List.length_cons, enumD_len]
def iEn (A : DEnv → M (List D)) : DEnv → M (List D) := fun ρ n =>
  match A ρ n with
  | some ([.list ds], n') => some (enumD 0 ds, n')
  | _ => none
theorem id_enumL {elts : List Expr} {kk : Nat} {tpos : Pos} (hg : Gl X "enumerate") (hm : X.mg "enumerate" = none) (ha : AD X ns c W [e] A) (hs : starEach [e] X.env = [(false, eval e X.env)] := by rfl) : ID X ns c W (.Tuple elts kk tpos) (.Call (.Name "enumerate" p) [e] [] pos) (iEn A) := by
  refine pi_weak (pi_enum hg hm ha hs) fun σ H R q => ?_
  obtain ⟨Hs0, H0, Hs, ρ, n, ds, n', r, e, q⟩ := q
  unfold iEn at e
  split at e
  · rename_i ds' n1 h1
    cases e
    refine ⟨Hs0, H0, Hs, ρ, n, _, _, r, h1, fun vs Hs' H' e1 c1 r1 => ?_⟩
    obtain ⟨v, rfl, rv⟩ := pr1 r1
    obtain ⟨a, xs, rfl, h2, r2⟩ := rv.list
    have sb := (r.step e1 c1).sub
    refine ⟨a, xs, rfl, SqL.of (sb _ _ h2), q _ Hs' H' e1 c1 (walkD_pair walk_enum (by rw [enumD_len, r2.length]) (fun H s => SqL.of (s _ _ h2)) fun i d hd => ?_)⟩
    obtain ⟨x, hx, rfl⟩ := enumD_get hd
    refine ⟨_, _, rfl, fun x' e => ?_, fun y e => ?_⟩
    · cases e
      rw [Nat.zero_add]
      exact .int _
    · obtain ⟨d', h3, h4⟩ := r2.get e
      rw [hx] at h3
      cases h3
      exact h4
  · cases e
/-- zip of two lists, of two tuples -/
def zipD : List D → List D → List D
  | x :: xs, y :: ys => .tuple [x, y] :: zipD xs ys
  | _, _ => []
theorem zipD_get : ∀ {xs ys : List D} {i : Nat} {d : D}, (zipD xs ys)[i]? = some d → ∃ x y, xs[i]? = some x ∧ ys[i]? = some y ∧ d = .tuple [x, y]
  | [], _, _, _, h => by simp [zipD] at h
  | _ :: _, [], _, _, h => by simp [zipD] at h
  | x :: xs, y :: ys, 0, d, h => by
    simp [zipD] at h
    exact ⟨x, y, rfl, rfl, h.symm⟩
  | x :: xs, y :: ys, i + 1, d, h => by
    obtain ⟨a, b, h1, h2, h3⟩ := zipD_get (xs := xs) (ys := ys) (i := i) (by simpa [zipD] using h)
    exact ⟨a, b, by simpa using h1, by simpa using h2, h3⟩
theorem zipD_len : ∀ {xs ys : List D}, (zipD xs ys).length = min xs.length ys.length
  | [], _ => by simp [zipD]
  | _ :: _, [] => by simp [zipD]
  | _ :: xs, _ :: ys => by unfold zipD; rw [List.length_cons, List.length_cons, List.length_cons, zipD_len]; omega
def iZp (A : DEnv → M (List D)) : DEnv → M (List D) := fun ρ n =>
  match A ρ n with
  | some ([.list xs, .list ys], n') => some (zipD xs ys, n')
  | some ([.tuple xs, .tuple ys], n') => some (zipD xs ys, n')
  | _ => none
theorem walk_zipT {K : PySem.W.Frag} {a b : Addr} {xs ys : List V} {n : Nat} (hn : n = min xs.length ys.length) : Walk (RZ.ItzT K a b) n (fun H => SqT K H a xs ∧ SqT K H b ys) (YPair (fun i => xs[i]?) (fun i => ys[i]?)) := by
  subst hn
  refine ⟨fun i _ hi q => ?_, fun _ q => ⟨xs, ys, q.1, q.2, by omega⟩, fun i H v H' _ q y => ?_⟩
  · have h1 : i < xs.length := by omega
    have h2 : i < ys.length := by omega
    exact ⟨xs, ys, xs[i], ys[i], q.1, q.2, by simp [h1], by simp [h2]⟩
  · obtain ⟨T, x, z, h1, h2, h3, h4, h5⟩ := y
    exact ⟨T, x, z, h1, h2, h3, h4 xs q.1, h5 ys q.2⟩
theorem id_zip {elts : List Expr} {kk : Nat} {tpos : Pos} (hg : Gl X "zip") (hm : X.mg "zip" = none) (ha : AD X ns c W [a, b] A)
    (hs : starEach [a, b] X.env = (false, eval a X.env) :: starEach [b] X.env := by rfl) (hpl : (backTo pos (starEach [b] X.env)).any (·.1) = false := by rfl) : ID X ns c W (.Tuple elts kk tpos) (.Call (.Name "zip" p) [a, b] [] pos) (iZp A) := by
  refine pi_weak (RZ.pi_zipA hg hm ha hs hpl) fun σ H R q => ?_
  obtain ⟨Hs0, H0, Hs, ρ, n, ds, n', r, e, q⟩ := q
  unfold iZp at e
  split at e
  · rename_i d1 d2 n1 h1
    cases e
    refine ⟨Hs0, H0, Hs, ρ, n, _, _, r, h1, fun vs Hs' H' e1 c1 r1 => ?_⟩
    obtain ⟨v, w, rfl, rv, rw'⟩ := pr2 r1
    obtain ⟨a, xs, rfl, h2, r2⟩ := rv.list
    obtain ⟨b, ys, rfl, h3, r3⟩ := rw'.list
    have sb := (r.step e1 c1).sub
    refine ⟨a, b, xs, ys, rfl, .inl ⟨SqL.of (sb _ _ h2), SqL.of (sb _ _ h3), q _ Hs' H' e1 c1 (walkD_pair (walk_zip rfl) (by rw [zipD_len, r2.length, r3.length]) (fun H s => ⟨SqL.of (s _ _ h2), SqL.of (s _ _ h3)⟩) fun i d hd => ?_)⟩⟩
    obtain ⟨x, y, hx, hy, rfl⟩ := zipD_get hd
    refine ⟨_, _, rfl, fun x' e => ?_, fun y e => ?_⟩
    · obtain ⟨d', h4, h5⟩ := r2.get e
      rw [hx] at h4
      cases h4
      exact h5
    · obtain ⟨d', h4, h5⟩ := r3.get e
      rw [hy] at h4
      cases h4
      exact h5
  · rename_i d1 d2 n1 h1
    cases e
    refine ⟨Hs0, H0, Hs, ρ, n, _, _, r, h1, fun vs Hs' H' e1 c1 r1 => ?_⟩
    obtain ⟨v, w, rfl, rv, rw'⟩ := pr2 r1
    obtain ⟨a, xs, rfl, h2, r2⟩ := rv.tuple
    obtain ⟨b, ys, rfl, h3, r3⟩ := rw'.tuple
    have sb := (r.step e1 c1).sub
    refine ⟨a, b, xs, ys, rfl, .inr ⟨Same.seqT sb h2, Same.seqT sb h3, q _ Hs' H' e1 c1 (walkD_pair (walk_zipT rfl) (by rw [zipD_len, r2.length, r3.length]) (fun H s => ⟨Same.seqT s h2, Same.seqT s h3⟩) fun i d hd => ?_)⟩⟩
    obtain ⟨x, y, hx, hy, rfl⟩ := zipD_get hd
    refine ⟨_, _, rfl, fun x' e => ?_, fun y e => ?_⟩
    · obtain ⟨d', h4, h5⟩ := r2.get e
      rw [hx] at h4
      cases h4
      exact h5
    · obtain ⟨d', h4, h5⟩ := r3.get e
      rw [hy] at h4
      cases h4
      exact h5
  · cases e

/-! ### for -/
def dFor (g : TgD) (S : SDen) : List D → SDen
  | [] => fun ρ n => some (.nx ρ, n)
  | d :: ds => fun ρ n => match g d ρ with
    | none => none
    | some ρ1 => match S ρ1 n with
      | some (.nx ρ2, n2) => dFor g S ds ρ2 n2
      | some (.ct ρ2, n2) => dFor g S ds ρ2 n2
      | some (.bk ρ2, n2) => some (.nx ρ2, n2)
      | some (.rt d, n2) => some (.rt d, n2)
      | some (.ex x, n2) => some (.ex x, n2)
      | none => none
def sFor (it : DEnv → M (List D)) (g : TgD) (S : SDen) : SDen := fun ρ n =>
  match it ρ n with
  | some (ds, n') => dFor g S ds ρ n'
  | none => none
theorem sd_for {ts : List Nat} {g : TgD} {body : List Stmt} {it : DEnv → M (List D)} (hp : PassesOwn (model X.prog X.w) X.A X.env X.xe) (hc : X.calm = true) (hi : ID X ns c W tg iter it) (hg : GD X ns c W ts tg g) (hb : SSD X fr ns c W W W body S)
    (hs : ∀ x, foldedSetIterable iter X.env x = pure x := by intro _; rfl) : SD X fr ns c Wb W W (.For tg iter body [] pos) (sFor it g S) := by
  refine ps_weak (ps_for hp hc hi hg hb hs) fun E σ H q => ?_
  obtain ⟨Hs0, H0, Hs, ρ, n, o, n', R, e, q⟩ := q
  unfold sFor at e
  split at e
  · rename_i ds n1 h1
    refine ⟨Hs0, H0, Hs, ρ, n, ds, n1, R, h1, fun J Hs1 H1 e1 c1 w => ?_⟩
    have R1 := R.step e1 c1
    -- the invariant
    refine ⟨fun i m σ H => m = ds.length - i ∧ i ≤ ds.length ∧ ∃ Hs2 ρ2 n2, Same Hs1 Hs2 ∧ Rel X.K ns c W Hs0 H0 Hs2 H σ ρ2 n2 ∧ dFor g S (ds.drop i) ρ2 n2 = some (o, n'), ⟨ds.length, by simp, Nat.zero_le _, Hs1, ρ, n1, Same.rfl', R1, by simpa using e⟩, ?_⟩
    rintro i m σ2 H2 ⟨rfl, hi, Hs2, ρ2, n2, s2, R2, e2⟩
    by_cases hlt : i < ds.length
    · right
      refine ⟨w.goes i H2 (Same.trans' s2 R2.sub) hlt, fun σ3 H3 => ∃ Hs3 ρ3 n3, Same Hs1 Hs3 ∧ Rel X.K ns c W Hs0 H0 Hs3 H3 σ3 ρ3 n3 ∧ dFor g S (ds.drop (i + 1)) ρ3 n3 = some (o, n'), fun σ3 H3 ⟨Hs3, ρ3, n3, z1, z2, z3⟩ => ⟨ds.length - (i + 1), by omega, rfl, hlt, Hs3, ρ3, n3, z1, z2, z3⟩, fun x H3 y => ?_⟩
      have hd : ds[i]? = some ds[i] := List.getElem?_eq_getElem hlt
      rw [List.drop_eq_getElem_cons hlt] at e2
      unfold dFor at e2
      obtain ⟨Hs3, e3, r3⟩ := w.yields i Hs2 H2 x H3 _ s2 R2.sub hd y
      have R3 := R2.stepP e3
      split at e2
      · cases e2
      · rename_i ρ3 hg3
        refine ⟨Hs0, H0, Hs3, ρ2, n2, _, ρ3, R3, r3, hg3, fun σ4 _ R4 => ?_⟩
        split at e2
        · rename_i ρ4 n4 hS
          exact ⟨Hs0, H0, Hs3, ρ3, n2, _, _, R4, hS, fun σ5 Hs5 H5 s5 R5 => ⟨_, ρ4, n4, Same.trans' s2 (Same.trans' e3.st s5), R5, e2⟩⟩
        · rename_i ρ4 n4 hS
          exact ⟨Hs0, H0, Hs3, ρ3, n2, _, _, R4, hS, fun σ5 Hs5 H5 s5 R5 => ⟨_, ρ4, n4, Same.trans' s2 (Same.trans' e3.st s5), R5, e2⟩⟩
        · rename_i ρ4 n4 hS
          cases e2
          exact ⟨Hs0, H0, Hs3, ρ3, n2, _, _, R4, hS, fun σ5 Hs5 H5 s5 R5 => q σ5 Hs5 H5 (Same.trans' e1.st (Same.trans' s2 (Same.trans' e3.st s5))) R5⟩
        · rename_i d4 n4 hS
          cases e2
          exact ⟨Hs0, H0, Hs3, ρ3, n2, _, _, R4, hS, q⟩
        · rename_i d4 n4 hS
          cases e2
          exact ⟨Hs0, H0, Hs3, ρ3, n2, _, _, R4, hS, fun cls σ5 Hs5 H5 W1 ρ' hx s5 R5 => q cls σ5 Hs5 H5 W1 ρ' hx (Same.trans' e1.st (Same.trans' s2 (Same.trans' e3.st s5))) R5⟩
        · cases e2
    · left
      have ei : i = ds.length := by omega
      subst ei
      rw [List.drop_length] at e2
      cases e2
      exact ⟨w.stops H2 (Same.trans' s2 R2.sub), q _ Hs2 H2 (Same.trans' e1.st s2) R2⟩
  · cases e
end
end DL
/-! DLf: while, comprehensions, defs by data. -/
namespace DL
open PySem PySem.Spec PyProof.Rows L2

section
variable {X : Cx} {fr : FR} {ns : List Int} {c : Md} {W W' W1 W2 Wb : List Nat} {a b e k tg iter : Expr} {es : List Expr} {f g u : DEnv → M D} {pos : Pos} {st : Stmt} {rest : List Stmt} {S T : SDen} {t : DEnv → M Bool}
/-! ### while -/
def dWhile (t : DEnv → M Bool) (S : SDen) : Nat → SDen
  | 0 => fun _ _ => none
  | m + 1 => fun ρ n => match t ρ n with
    | some (false, n1) => some (.nx ρ, n1)
    | some (true, n1) => match S ρ n1 with
      | some (.nx ρ2, n2) => dWhile t S m ρ2 n2
      | some (.ct ρ2, n2) => dWhile t S m ρ2 n2
      | some (.bk ρ2, n2) => some (.nx ρ2, n2)
      | some (.rt d, n2) => some (.rt d, n2)
      | some (.ex x, n2) => some (.ex x, n2)
      | none => none
    | none => none
theorem sd_while (m : Nat) {body : List Stmt} (hp : PassesOwn (model X.prog X.w) X.A X.env X.xe) (ht : TD X ns c W k t) (hb : SSD X fr ns c W W W body S) : SD X fr ns c Wb W W (.While k body [] pos) (dWhile t S m) := by
  refine ps_weak (ps_while hp ht hb) fun E σ H q => ?_
  obtain ⟨Hs0, H0, Hs, ρ, n, o, n', R, e, q⟩ := q
  refine ⟨fun m σ H => ∃ Hs2 ρ2 n2, Same Hs Hs2 ∧ Rel X.K ns c W Hs0 H0 Hs2 H σ ρ2 n2 ∧ dWhile t S m ρ2 n2 = some (o, n'), ⟨m, Hs, ρ, n, Same.rfl', R, e⟩, ?_⟩
  rintro m σ2 H2 ⟨Hs2, ρ2, n2, s2, R2, e2⟩
  cases m with
  | zero => cases e2
  | succ m =>
    unfold dWhile at e2
    split at e2
    · rename_i n3 ht3
      cases e2
      exact ⟨Hs0, H0, Hs2, ρ2, n2, false, _, R2, ht3, fun Hs3 H3 e3 c3 => iteF (q _ Hs3 H3 (Same.trans' s2 e3.st) (R2.step e3 c3))⟩
    · rename_i n3 ht3
      refine ⟨Hs0, H0, Hs2, ρ2, n2, true, n3, R2, ht3, fun Hs3 H3 e3 c3 => iteT ?_⟩
      refine ⟨fun σ4 H4 => ∃ Hs4 ρ4 n4, Same Hs Hs4 ∧ Rel X.K ns c W Hs0 H0 Hs4 H4 σ4 ρ4 n4 ∧ dWhile t S m ρ4 n4 = some (o, n'), fun σ4 H4 h4 => ⟨m, Nat.lt_succ_self _, h4⟩, ?_⟩
      have R3 := R2.step e3 c3
      have s3 := Same.trans' s2 e3.st
      split at e2
      · rename_i ρ4 n4 hS
        exact ⟨Hs0, H0, Hs3, ρ2, n3, _, _, R3, hS, fun σ5 Hs5 H5 s5 R5 => ⟨_, ρ4, n4, Same.trans' s3 s5, R5, e2⟩⟩
      · rename_i ρ4 n4 hS
        exact ⟨Hs0, H0, Hs3, ρ2, n3, _, _, R3, hS, fun σ5 Hs5 H5 s5 R5 => ⟨_, ρ4, n4, Same.trans' s3 s5, R5, e2⟩⟩
      · rename_i ρ4 n4 hS
        cases e2
        exact ⟨Hs0, H0, Hs3, ρ2, n3, _, _, R3, hS, fun σ5 Hs5 H5 s5 R5 => q σ5 Hs5 H5 (Same.trans' s3 s5) R5⟩
      · rename_i d4 n4 hS
        cases e2
        exact ⟨Hs0, H0, Hs3, ρ2, n3, _, _, R3, hS, q⟩
      · rename_i d4 n4 hS
        cases e2
        exact ⟨Hs0, H0, Hs3, ρ2, n3, _, _, R3, hS, fun cls σ5 Hs5 H5 W1 ρ' hx s5 R5 => q cls σ5 Hs5 H5 W1 ρ' hx (Same.trans' s3 s5) R5⟩
      · cases e2
    · cases e2

/-! ### comprehensions -/
def wipeD (ρ : DEnv) : List Nat → DEnv
  | [] => ρ
  | v :: vs => (wipeD ρ vs).set v none
theorem wipeD_len {ρ : DEnv} : ∀ {vs : List Nat}, (wipeD ρ vs).length = ρ.length
  | [] => rfl
  | _ :: _ => by unfold wipeD; rw [List.length_set, wipeD_len]
theorem wipeD_some {ρ : DEnv} {i : Nat} {x : D} : ∀ {vs : List Nat}, (wipeD ρ vs)[i]? = some (some x) → ρ[i]? = some (some x) ∧ i ∉ vs
  | [], h => ⟨h, by simp⟩
  | v :: vs, h => by
    unfold wipeD at h
    by_cases hi : v = i
    · subst hi
      by_cases hv : v < (wipeD ρ vs).length
      · rw [List.getElem?_set_self hv] at h; cases h
      · rw [List.getElem?_eq_none (by simpa using hv)] at h; cases h
    · rw [List.getElem?_set_ne hi] at h
      obtain ⟨h1, h2⟩ := wipeD_some h
      exact ⟨h1, by simp only [List.mem_cons, not_or]; exact ⟨fun e => hi e.symm, h2⟩⟩
theorem wipeD_out {ρ : DEnv} {i : Nat} : ∀ {vs : List Nat}, i ∉ vs → (wipeD ρ vs)[i]? = ρ[i]?
  | [], _ => rfl
  | v :: vs, h => by
    unfold wipeD
    rw [List.getElem?_set_ne (fun (e : v = i) => h (by rw [e]; exact List.mem_cons_self)), wipeD_out fun z => h (List.mem_cons_of_mem _ z)]
theorem wipe_out' {σ : L2.St} {i : Nat} : ∀ {vs : List Nat}, i ∉ vs → (wipe σ vs)[i]? = σ[i]?
  | [], _ => rfl
  | v :: vs, h => by
    unfold wipe
    rw [List.getElem?_set_ne (fun (e : v = i) => h (by rw [e]; exact List.mem_cons_self)), wipe_out' fun z => h (List.mem_cons_of_mem _ z)]
theorem wipe_in {σ : L2.St} {i : Nat} : ∀ {vs : List Nat}, i ∈ vs → (wipe σ vs)[i]? = if i < σ.length then some none else none
  | v :: vs, h => by
    unfold wipe
    by_cases q : v = i
    · subst q
      by_cases hl : v < σ.length
      · rw [if_pos hl, List.getElem?_set_self (by rw [wipe_length]; exact hl)]
      · rw [if_neg hl, List.getElem?_eq_none (by rw [List.length_set, wipe_length]; omega)]
    · rw [List.getElem?_set_ne q]
      exact wipe_in ((List.mem_cons.mp h).resolve_left fun e => q e.symm)
theorem wipe_only {ts vs : List Nat} {σ σ' : L2.St} (o : Only ts σ σ') (h : ∀ j ∈ ts, j ∈ vs) : wipe σ' vs = wipe σ vs := by
  apply List.ext_getElem?
  intro i
  by_cases hi : i ∈ vs
  · rw [wipe_in hi, wipe_in hi, o.len]
  · rw [wipe_out' hi, wipe_out' hi, o.out i fun z => hi (h i z)]
theorem wipe_idem {σ : L2.St} {vs : List Nat} : wipe (wipe σ vs) vs = wipe σ vs := by
  apply List.ext_getElem?
  intro i
  by_cases hi : i ∈ vs
  · rw [wipe_in hi, wipe_in hi, wipe_length]
  · rw [wipe_out' hi]
theorem Rel.wipe {K : PySem.W.Frag} {Hs0 H0 Hs H : Hp} {σ : L2.St} {ρ : DEnv} {n : Nat} {vs : List Nat} (hv : ∀ i ∈ vs, i ∉ W) (R : Rel K ns c W Hs0 H0 Hs H σ ρ n) : Rel K ns c W Hs0 H0 Hs H (wipe σ vs) (wipeD ρ vs) n := by
  refine ⟨R.ext, R.cel, R.hc, fun j d h hj => ?_, fun j hj => ?_, fun j hj l hl hjl p h1 h2 => ?_, by rw [wipe_length, wipeD_len]; exact R.len⟩
  · obtain ⟨h1, h2⟩ := wipeD_some h
    rw [wipe_out' h2]
    exact R.vars j d h1 hj
  · obtain ⟨p, vs', ds, a1, a2, a3⟩ := R.own j hj
    exact ⟨p, vs', ds, by rw [wipeD_out fun z => hv j z hj]; exact a1, by rw [wipe_out' fun z => hv j z hj]; exact a2, a3⟩
  · rw [wipe_out' fun z => hv j z hj] at h1
    rw [wipe_out' fun z => hv l z hl] at h2
    exact R.apart j hj l hl hjl p h1 h2
def dYes : DEnv → M Bool := fun _ n => some (true, n)
abbrev TsD (X : Cx) (ns : List Int) (c : Md) (W : List Nat) (es : List Expr) (f : DEnv → M Bool) : Prop := PTs X es (tDT X.K ns c W f)
theorem tsd_nil : TsD X ns c W [] dYes := ⟨fun pins s σ H Q I q => by
  obtain ⟨Hs0, H0, Hs, ρ, n, z, n', R, e, q⟩ := q
  cases e
  exact pts_nil.run pins s σ H Q I (q Hs H (ExtP.refl R.sub).ext R.cel)⟩
theorem tsd_one (h : TD X ns c W e t) : TsD X ns c W [e] t := pts_one h
/-- the items made, from the wiped slots -/
def dComp (g : TgD) (t : DEnv → M Bool) (f : DEnv → M D) (ρ : DEnv) : List D → M (List D)
  | [] => fun n => some ([], n)
  | d :: ds => fun n => match g d ρ with
    | none => none
    | some ρ1 => match t ρ1 n with
      | some (true, n1) => match f ρ1 n1 with
        | some (x, n2) => if noDict x = true then match dComp g t f ρ ds n2 with
          | some (xs, n3) => some (x :: xs, n3)
          | none => none
          else none
        | none => none
      | some (false, n1) => dComp g t f ρ ds n1
      | none => none
def dLc (it : DEnv → M (List D)) (vs : List Nat) (g : TgD) (t : DEnv → M Bool) (f : DEnv → M D) : DEnv → M D := fun ρ n =>
  match it ρ n with
  | some (ds, n1) => if ds.length ≤ LIM then match dComp g t f (wipeD ρ vs) ds n1 with
    | some (xs, n2) => some (.list xs, n2)
    | none => none
    else none
  | none => none
theorem dComp_len {g : TgD} {t : DEnv → M Bool} {f : DEnv → M D} {ρ : DEnv} : ∀ {ds : List D} {n n' : Nat} {xs : List D}, dComp g t f ρ ds n = some (xs, n') → xs.length ≤ ds.length
  | [], _, _, _, h => by unfold dComp at h; cases h; exact Nat.le_refl _
  | d :: ds, n, n', xs, h => by
    unfold dComp at h
    split at h
    · cases h
    · split at h
      · split at h
        · split at h
          · split at h
            · rename_i h4
              cases h
              have := dComp_len h4
              simp only [List.length_cons]
              omega
            · cases h
          · cases h
        · cases h
      · have := dComp_len h
        simp only [List.length_cons]
        omega
      · cases h
/-- a comprehension's reading by data -/
theorem tLcD {ts vs : List Nat} {g : TgD} {it : DEnv → M (List D)} (hts : ∀ j ∈ ts, j ∈ vs) (hvW : ∀ i ∈ vs, i ∉ W) (σ : L2.St) (H : Hp) (Q : VK) (q : tDF X.K ns c W (dLc it vs g t f) σ H Q) :
    tLc (tDI X.K ns c W it) (tDG X.K ns c W ts g) (tDT X.K ns c W t) (tD X.K ns c W f) vs σ H Q := by
  obtain ⟨Hs0, H0, Hs, ρ, n, xs, n', R, e, q⟩ := q
  unfold dLc at e
  split at e
  · rename_i ds n1 h1
    split at e
    · rename_i hlim
      split at e
      · rename_i xs' n2 h2
        cases e
        refine ⟨Hs0, H0, Hs, ρ, n, ds, n1, R, h1, fun J Hs1 H1 e1 c1 w D hD => ?_⟩
        have R1 := R.step e1 c1
        have hD0 : H D = none := by
          cases e : H D with
          | none => rfl
          | some o =>
            by_cases hc : ∀ q, c = some q → D ≠ q.1
            · rw [e1.al D o hc e] at hD; cases hD
            · exact absurd (fun q hq z => by rw [z, c1 q hq] at hD; cases hD) hc
        have hDs : Hs1 D = none := by
          cases e : Hs1 D with
          | none => rfl
          | some o => rw [R1.sub D o e] at hD; cases hD
        have R2 : Rel X.K ns c W Hs0 H0 Hs1 (upd H1 D (.lst [])) σ ρ n1 := by
          refine ⟨⟨R1.ext.st, fun b o hb h => ?_, fun b o h => ?_, R1.ext.new⟩, fun p hp => ?_, R1.hc, R1.vars, fun i hi => ?_, R1.apart, R1.len⟩
          · have := R1.ext.al b o hb h
            rw [upd_ne (ne_of_none this hD)]; exact this
          · have := R1.sub b o h
            rw [upd_ne (ne_of_none this hD)]; exact this
          · rw [upd_ne (ne_of_none (c1 p hp) hD)]; exact c1 p hp
          · obtain ⟨p, vs', ds', a1, a2, a3, a4⟩ := R1.own i hi
            exact ⟨p, vs', ds', a1, a2, by rw [upd_ne (ne_of_none a3 hD)]; exact a3, a4⟩
        -- the invariant
        refine ⟨fun i m H => m = ds.length - i ∧ i ≤ ds.length ∧ ∃ Hs2 n3 done dn todo, Same Hs1 Hs2 ∧ Rel X.K ns c W Hs0 H0 Hs2 H σ ρ n3 ∧ Hs2 D = none ∧ SameC c H1 H ∧ H D = some (.lst done) ∧ RpAll X.K Hs2 done dn ∧ dComp g t f (wipeD ρ vs) (ds.drop i) n3 = some (todo, n') ∧ xs = dn ++ todo ∧ done.length ≤ i ∧ (∀ p, Hs2 p ≠ none → Hs1 p ≠ none ∨ H1 p = none),
          ⟨ds.length, by simp, Nat.zero_le _, Hs1, n1, [], [], xs, Same.rfl', R2, hDs, fun b o hb h => by rw [upd_ne (ne_of_none h hD)]; exact h, upd_same, .nil, by simpa using h2, rfl, Nat.le_refl _, fun p h => .inl h⟩, ?_⟩
        rintro i m H2 ⟨rfl, hi, Hs2, n3, done, dn, todo, s2, R3, hD3, al3, dD, rD, e3, ex, hdl, new3⟩
        by_cases hlt : i < ds.length
        · right
          refine ⟨w.goes i H2 (Same.trans' s2 R3.sub) hlt, fun H5 => ∃ Hs5 n5 done5 dn5 todo5, Same Hs1 Hs5 ∧ Rel X.K ns c W Hs0 H0 Hs5 H5 σ ρ n5 ∧ Hs5 D = none ∧ SameC c H1 H5 ∧ H5 D = some (.lst done5) ∧ RpAll X.K Hs5 done5 dn5 ∧ dComp g t f (wipeD ρ vs) (ds.drop (i + 1)) n5 = some (todo5, n') ∧ xs = dn5 ++ todo5 ∧ done5.length ≤ i + 1 ∧ (∀ p, Hs5 p ≠ none → Hs1 p ≠ none ∨ H1 p = none),
            fun H5 h5 => ⟨ds.length - (i + 1), by omega, rfl, hlt, h5⟩, fun x H3 y => ?_⟩
          have hd : ds[i]? = some ds[i] := List.getElem?_eq_getElem hlt
          rw [List.drop_eq_getElem_cons hlt] at e3
          unfold dComp at e3
          obtain ⟨Hs3, ee3, r3⟩ := w.yields i Hs2 H2 x H3 _ s2 R3.sub hd y
          have R4 := R3.stepP ee3
          have hD4 : Hs3 D = none := (ee3.ext (c := c)).keep0 hD3 (by rw [dD]; exact fun z => nomatch z)
          have newf : ∀ {Hs3 H3 Hs4 H4 : Hp}, SameC c H1 H3 → (∀ p, Hs3 p ≠ none → Hs1 p ≠ none ∨ H1 p = none) → Ext c Hs3 H3 Hs4 H4 → (∀ p, c = some p → H3 p.1 ≠ none) → ∀ p, Hs4 p ≠ none → Hs1 p ≠ none ∨ H1 p = none := fun {Hs3 H3 Hs4 H4} al nw ex hcc p hp => by
            rcases ex.new p hp with z | z
            · exact nw p z
            · right
              cases e : H1 p with
              | none => rfl
              | some o =>
                by_cases hc : ∀ q, c = some q → p ≠ q.1
                · rw [al p o hc e] at z; cases z
                · exact absurd (fun q hq zz => hcc q hq (by rw [← zz]; exact z)) hc
          have alt : ∀ {H3 H4 : Hp}, SameC c H1 H3 → SameC c H3 H4 → SameC c H1 H4 := fun a b p o hp h => b p o hp (a p o hp h)
          have al4 : SameC c H1 H3 := alt al3 (ee3.ext (c := c)).al
          have new4 := newf al3 new3 (ee3.ext (c := c)) (fun p hp => by rw [R3.cel p hp]; exact fun z => nomatch z)
          split at e3
          · cases e3
          · rename_i ρ1 hg1
            refine ⟨Hs0, H0, Hs3, wipeD ρ vs, n3, _, ρ1, R4.wipe hvW, r3, hg1, fun σ4 o4 R5 => ⟨(wipe_only o4 hts).trans wipe_idem, ?_⟩⟩
            split at e3
            · rename_i n6 ht6
              refine ⟨Hs0, H0, Hs3, ρ1, n3, true, n6, R5, ht6, fun Hs6 H6 e6 c6 => iteT ?_⟩
              have R6 := R5.step e6 c6
              split at e3
              · rename_i x7 n7 hf7
                split at e3
                · rename_i hnd
                  refine ⟨Hs0, H0, Hs6, ρ1, n6, x7, n7, R6, hf7, fun v7 Hs7 H7 e7 c7 r7 => ?_⟩
                  have D3 : H3 D = some (.lst done) := ee3.al D _ dD
                  have hcD : ∀ q, c = some q → D ≠ q.1 := fun q hq z => by
                    rw [z, c1 q hq] at hD; cases hD
                  have D6 : H6 D = some (.lst done) := e6.al D _ hcD D3
                  have D7 : H7 D = some (.lst done) := e7.al D _ hcD D6
                  have hD6 : Hs6 D = none := e6.keep0 hD4 (by rw [D3]; exact fun z => nomatch z)
                  have hD7 : Hs7 D = none := e7.keep0 hD6 (by rw [D6]; exact fun z => nomatch z)
                  refine ⟨done, D7, by rw [LIM_eq]; exact Nat.lt_of_lt_of_le (Nat.lt_of_le_of_lt hdl hlt) hlim, ?_⟩
                  split at e3
                  · rename_i xs8 n8 h8
                    cases e3
                    have Rb : Rel X.K ns c W Hs0 H0 Hs7 H7 σ ρ n7 := (R4.step e6 c6).step e7 c7
                    have al7 : SameC c H1 H7 := alt (alt al4 e6.al) e7.al
                    have c3' : ∀ p, c = some p → H3 p.1 ≠ none := fun p hp => by rw [R4.cel p hp]; exact fun z => nomatch z
                    have c6' : ∀ p, c = some p → H6 p.1 ≠ none := fun p hp => by rw [c6 p hp]; exact fun z => nomatch z
                    have new7 := newf (alt al4 e6.al) (newf al4 new4 e6 c3') e7 c6'
                    refine ⟨Hs7, n7, done ++ [v7], dn ++ [x7], xs8, Same.trans' s2 (Same.trans' ee3.st (Same.trans' e6.st e7.st)), ?_, hD7, fun b o hb h => ?_, upd_same, (RpAll.same (Same.trans' ee3.st (Same.trans' e6.st e7.st)) _ _ rD).append (RpAll.one (r7.rp (noDict_of hnd))), h8, by rw [ex]; simp, by rw [List.length_append, List.length_singleton]; omega, new7⟩
                    · refine ⟨⟨Rb.ext.st, fun b o hb h => ?_, fun b o h => ?_, Rb.ext.new⟩, fun p hp => ?_, Rb.hc, Rb.vars, fun i hi => ?_, Rb.apart, Rb.len⟩
                      · have h0 : H0 D = none := (R.none0 hD0).1
                        rw [upd_ne (ne_of_none h h0)]; exact Rb.ext.al b o hb h
                      · rw [upd_ne (ne_of_none h hD7)]; exact Rb.sub b o h
                      · rw [upd_ne (fun z => hcD p hp z.symm)]; exact Rb.cel p hp
                      · obtain ⟨p, vs', ds', a1, a2, a3, a4⟩ := Rb.own i hi
                        obtain ⟨p', vs'', ds'', b1, b2, b3, b4⟩ := R.own i hi
                        rw [a2] at b2
                        cases b2
                        exact ⟨p, vs', ds', a1, a2, by rw [upd_ne (ne_of_none b3 hD0)]; exact a3, a4⟩
                    · rw [upd_ne (ne_of_none h hD)]; exact al7 b o hb h
                  · cases e3
                · cases e3
              · cases e3
            · rename_i n6 ht6
              refine ⟨Hs0, H0, Hs3, ρ1, n3, false, n6, R5, ht6, fun Hs6 H6 e6 c6 => iteF ?_⟩
              have D3 : H3 D = some (.lst done) := ee3.al D _ dD
              have hcD : ∀ q, c = some q → D ≠ q.1 := fun q hq z => by
                rw [z, c1 q hq] at hD; cases hD
              have D6 : H6 D = some (.lst done) := e6.al D _ hcD D3
              have hD6 : Hs6 D = none := e6.keep0 hD4 (by rw [D3]; exact fun z => nomatch z)
              have c3' : ∀ p, c = some p → H3 p.1 ≠ none := fun p hp => by rw [R4.cel p hp]; exact fun z => nomatch z
              exact ⟨Hs6, n6, done, dn, todo, Same.trans' s2 (Same.trans' ee3.st e6.st), R4.step e6 c6, hD6, alt al4 e6.al, D6, RpAll.same (Same.trans' ee3.st e6.st) _ _ rD, e3, ex, by omega, newf al4 new4 e6 c3'⟩
            · cases e3
        · left
          have ei : i = ds.length := by omega
          subst ei
          rw [List.drop_length] at e3
          cases e3
          rw [List.append_nil] at ex
          subst ex
          refine ⟨w.stops H2 (Same.trans' s2 R3.sub), q D done Hs2 H2 ⟨Same.trans' e1.st s2, fun b o hb h => al3 b o hb (e1.al b o hb h), R3.sub, fun p hp => ?_⟩ R3.cel hD0 hD3 dD rD⟩
          rcases new3 p hp with z | z
          · exact e1.new p z
          · right
            cases e : H p with
            | none => rfl
            | some o =>
              by_cases hc : ∀ q, c = some q → p ≠ q.1
              · rw [e1.al p o hc e] at z; cases z
              · exact absurd (fun q hq zz => by rw [zz, c1 q hq] at z; cases z) hc
      · cases e
    · cases e
  · cases e
theorem fd_lc {ifs : List Expr} {scope : Scope} {own : List (Str × Nat)} {ts : List Nat} {g : TgD} {it : DEnv → M (List D)} (hc : X.calm = true) (hN : X.N.Nodup) (hi : ID X ns c W tg iter it) (ok : BlkOk X.N X.env.scope scope own)
    (hg : ∀ (s : Shared) (H : Hp) (C : Addr) (cl : List (Str × Addr)) (fp : List Addr), GD (X.blk s H scope (compEnvC scope cl C X.env) fp) ns c W ts tg g) (ht : ∀ (s : Shared) (H : Hp) (C : Addr) (cl : List (Str × Addr)) (fp : List Addr), TsD (X.blk s H scope (compEnvC scope cl C X.env) fp) ns c W ifs t)
    (he : ∀ (s : Shared) (H : Hp) (C : Addr) (cl : List (Str × Addr)) (fp : List Addr), ED (X.blk s H scope (compEnvC scope cl C X.env) fp) ns c W e f) (hts : ∀ j ∈ ts, j ∈ own.map (·.2) := by decide) (hvW : ∀ i ∈ own.map (·.2), i ∉ W := by decide) (hs : ∀ x, foldedSetIterable iter X.env x = pure x := by intro _; rfl) :
    FD X ns c W (.ListComp e [⟨tg, iter, ifs, 0⟩] scope pos) (dLc it (own.map (·.2)) g t f) :=
  pe_weak (pe_lc hc hN hi ok hg ht he hs) (tLcD hts hvW)
theorem dLc_lst {it : DEnv → M (List D)} {vs : List Nat} {g : TgD} : fLst (dLc it vs g t f) = dLc it vs g t f := by
  funext ρ n
  unfold fLst dLc
  split
  · rename_i h; exact h.symm
  · rename_i hx
    split
    · rename_i ds n1 h1
      rw [h1] at hx
      simp only at hx
      split
      · rename_i hl
        rw [if_pos hl] at hx
        split
        · rename_i xs n2 h2
          rw [h2] at hx
          exact absurd rfl (hx xs n2)
        · rfl
      · rfl
    · rfl
theorem ed_lc {ifs : List Expr} {scope : Scope} {own : List (Str × Nat)} {ts : List Nat} {g : TgD} {it : DEnv → M (List D)} (hc : X.calm = true) (hN : X.N.Nodup) (hi : ID X ns c W tg iter it) (ok : BlkOk X.N X.env.scope scope own)
    (hg : ∀ (s : Shared) (H : Hp) (C : Addr) (cl : List (Str × Addr)) (fp : List Addr), GD (X.blk s H scope (compEnvC scope cl C X.env) fp) ns c W ts tg g) (ht : ∀ (s : Shared) (H : Hp) (C : Addr) (cl : List (Str × Addr)) (fp : List Addr), TsD (X.blk s H scope (compEnvC scope cl C X.env) fp) ns c W ifs t)
    (he : ∀ (s : Shared) (H : Hp) (C : Addr) (cl : List (Str × Addr)) (fp : List Addr), ED (X.blk s H scope (compEnvC scope cl C X.env) fp) ns c W e f) (hts : ∀ j ∈ ts, j ∈ own.map (·.2) := by decide) (hvW : ∀ i ∈ own.map (·.2), i ∉ W := by decide) (hs : ∀ x, foldedSetIterable iter X.env x = pure x := by intro _; rfl) :
    ED X ns c W (.ListComp e [⟨tg, iter, ifs, 0⟩] scope pos) (dLc it (own.map (·.2)) g t f) := by
  have := ed_fresh (fd_lc (pos := pos) hc hN hi ok hg ht he hts hvW hs)
  rw [dLc_lst] at this
  exact this

/-! ### defs -/
def startD (N : Nat) (ds : List D) : DEnv := ds.map some ++ List.replicate (N - ds.length) none
def fnD (N : Nat) (S : SDen) : List D → M D := fun ds n =>
  match S (startD N ds) n with
  | some (.rt d, n') => some (d, n')
  | some (.nx _, n') => some (.none, n')
  | _ => none
theorem start_rel {K : PySem.W.Frag} {Hs H : Hp} {N : List Str} {vs : List V} {ds : List D} {n : Nat} (hN : ds.length ≤ N.length) (s : Same Hs H) (cl : Cel c n H) (hc : ∀ p, c = some p → Hs p.1 = none) (r : Paired (SRep K ns c Hs) vs ds) : Rel K ns c [] Hs H Hs H (L2.start N vs) (startD N.length ds) n := by
  have hl : vs.length = ds.length := Paired.length r
  refine ⟨(ExtP.refl s).ext, cl, hc, fun i d h _ => ?_, fun i hi => absurd hi (by simp), fun i hi => absurd hi (by simp), ?_⟩
  · unfold startD at h
    unfold L2.start
    by_cases hi : i < ds.length
    · rw [List.getElem?_append_left (by simpa using hi), List.getElem?_map] at h
      rw [List.getElem?_append_left (by simpa [hl] using hi), List.getElem?_map]
      have get : ∀ {vs : List V} {ds : List D} {i : Nat} {d : D}, Paired (SRep K ns c Hs) vs ds → ds[i]? = some d → ∃ v, vs[i]? = some v ∧ SRep K ns c Hs v d := by
        intro vs ds i d r
        induction r generalizing i with
        | nil => intro h; simp at h
        | cons r t ih =>
          intro h
          cases i with
          | zero => simp at h; subst h; exact ⟨_, rfl, r⟩
          | succ i =>
            obtain ⟨v, h1, h2⟩ := ih (i := i) (by simpa using h)
            exact ⟨v, by simpa using h1, h2⟩
      cases e : ds[i]? with
      | none => rw [e] at h; cases h
      | some d' =>
        rw [e] at h
        cases h
        obtain ⟨v, h1, h2⟩ := get r e
        exact ⟨v, by rw [h1]; rfl, h2⟩
    · rw [List.getElem?_append_right (by simpa using hi), List.getElem?_replicate] at h
      split at h <;> cases h
  · unfold L2.start startD
    simp [hl]
theorem fn_D {P : Program} {w : World} {K : PySem.W.Frag} {mg : Str → Option Value} {base : Heap} {x qual : Str} {st : Stmt} {f : Addr} {fd : FuncData} {N ps : List Str} {k : Nat} {S : SDen} {W' : List Nat} (F : Fun K x qual st f fd) (Sc : FnScope N ps (defScope st)) (ns : List Int)
    (body : ∀ (c : Md) (cdv : Value) (A : Around) (outer : List Env) (s : Shared) (H : Hp) (E : XK), Room k (A.deeper (envOfC qual (defScope st) s.heap.objs.size f cdv)) → SSD (cxOf CX0 P w K mg base N qual (defScope st) f cdv A outer s H E).nox ⟨false, fun _ _ _ _ => False⟩ ns c [] [] W' (defBody st) S) :
    FnOk P w K mg base CX0 (k + 1) f fd ps (spD K ns ps.length (fnD N.length S)) := by
  refine F.ok Sc (fun vs H Q E h => h.1) (fun cdv A outer s H vs Q E hr h => ?_)
  obtain ⟨hl, c, Hs, ds, n, d, n', sm, cl, hc, r, e, q⟩ := h
  refine ⟨_, body c cdv A outer s H E hr, ?_⟩
  have hpl : ps.length ≤ N.length := by have := congrArg List.length Sc.pre; rw [List.length_take] at this; omega
  have hdl : ds.length ≤ N.length := by
    have : vs.length = ds.length := Paired.length r
    omega
  unfold fnD at e
  split at e
  · rename_i d1 n1 h1
    cases e
    exact ⟨Hs, H, Hs, _, n, _, _, start_rel hdl sm cl hc r, h1, q⟩
  · rename_i ρ1 n1 h1
    cases e
    exact ⟨Hs, H, Hs, _, n, _, _, start_rel hdl sm cl hc r, h1, fun σ' Hs' H' _ R => q .non _ H' (R.frz [] (fun _ h => nomatch h)).ext R.cel (.inl .non)⟩
  · cases e
end
end DL
/-! DLg: enumerate of a tuple. -/
namespace DL
open PySem PySem.Spec PyProof.Rows L2
open AutoSeq1 (wpAny_loadPart')

set_option maxHeartbeats 2000000 in
theorem meets_enumerate_new1 {v : Value} {o : Obj} {H : Heap → Prop} (B : Begins v o H) :
    Meets (Builtin.«enumerate.__new__» ⟨[.type "enumerate", v], []⟩) (fun _ R s => H s.heap ∧
      R (.ok (.ret (.ref (s.heap.push o).objs.size))) { s with heap := (s.heap.push o).push { cls := .type "enumerate", data := .fields #[.none, .bool false, .ref s.heap.objs.size, rawInt 0, .none, .none] } }) :=
  .of_wp fun prog w A R s h => by
    obtain ⟨hp, g, d, tk, os⟩ := s; obtain ⟨h1, h⟩ := h
    have hsub := sub_enumerate
    have q1 : ∀ {A' : Around} {E : Value → Shared → Prop} {Q : Value → Shared → Prop}, Q (.ref hp.objs.size) ⟨hp.push o, g, d, tk, os⟩ → wpAny (model prog w) A' (pyIter v) Q E ⟨hp, g, d, tk, os⟩ :=
      fun q => B.iter prog w _ _ ⟨hp, g, d, tk, os⟩ _ h1 q
    wp_walk using q1
    refine wpAny_stack_any fun st => wpAny_pure ?_
    split
    · rename_i c _ _ _ _ _
      cases (c == Value.type "enumerate")
      · wp_walk using q1
        exact ⟨_, rfl, h⟩
      · wp_walk using q1
        exact ⟨_, rfl, h⟩
    · wp_walk using q1
      exact ⟨_, rfl, h⟩
section
variable {prog : Program} {w : World} {A : Around} {E : Value → Shared → Prop} {s : Shared}
theorem enum_begins1 {v : Value} {o : Obj} {H : Heap → Prop} {Q : Value → Shared → Prop} (B : Begins v o H) (h1 : H s.heap)
    (h : ∀ h', IsEnum h' (s.heap.objs.size + 1) s.heap.objs.size 0 .none → h'.get? s.heap.objs.size = some o → h'.objs.size = s.heap.objs.size + 2 →
      (∀ b o, s.heap.get? b = some o → h'.get? b = some o) → Q (.ref (s.heap.objs.size + 1)) { s with heap := h' }) :
    wpAny (model prog w) A (call (.type "enumerate") [v]) Q E s := by
  refine callType_new F.called_enumerate (by decide) (F.typeCall_enumerate_1 _) (F.newCall_enumerate_1 _) (fun obj => F.args_object_init_2 obj _) F.entry_enumerate_new
    (meets_enumerate_new1 B) ⟨h1, ?_⟩
  have hz : (s.heap.push o).objs.size = s.heap.objs.size + 1 := Heap.size_push ..
  show _ ∧ _
  rw [hz]
  have he : IsEnum ((s.heap.push o).push { cls := .type "enumerate", data := .fields #[.none, .bool false, .ref s.heap.objs.size, rawInt 0, .none, .none] }) (s.heap.objs.size + 1) s.heap.objs.size 0 .none := by
    have := Heap.get?_push_size (s.heap.push o) (o := { cls := .type "enumerate", data := .fields #[.none, .bool false, .ref s.heap.objs.size, rawInt 0, .none, .none] }) rfl
    rw [hz] at this; exact this
  refine ⟨⟨_, he, rfl⟩, h _ he (Heap.get?_push_of_some _ (Heap.get?_push_size _ B.free)) (by rw [Heap.size_push, hz]) fun b o x => Heap.get?_push_of_some _ (Heap.get?_push_of_some _ x)⟩
end

/-- the tuple at a, its items in new pairs -/
def IteT (K : PySem.W.Frag) (a : Addr) : It :=
  ⟨fun i H => ∃ (xs : List V) (x : V), SqT K H a xs ∧ xs[i]? = some x, fun i H v H' => ∃ T x, v = .ref T ∧ H T = none ∧ H' = upd H T (.tup [.int (i : Nat), x]) ∧ ∀ xs, SqT K H a xs → xs[i]? = some x, fun i H => ∃ xs : List V, SqT K H a xs ∧ xs.length = i⟩
theorem turn_enumT {P : Program} {w : World} {K : PySem.W.Frag} {elts : List Expr} {kk : Nat} {tpos : Pos} (a e it : Addr) (hne : e ≠ it) (hai : a ≠ it) :
    Turn P w K (.Tuple elts kk tpos) (IteT K a) [e, it] e (fun i h => (∃ old, IsEnum h e it ((i : Nat) : Int) old) ∧ h.IsTupleIter it a i) where
  mem := by simp
  obj := fun i h st b hb => by
    obtain ⟨⟨old, he⟩, ⟨o, ho, hc, hd⟩⟩ := st
    have e' : b = e ∨ b = it := by simpa using hb
    rcases e' with z | z
    · rw [z]; exact ⟨_, he, fun v q => nomatch q⟩
    · rw [z]; exact ⟨o, ho, fun v q => by rw [hd] at q; cases q⟩
  keep := fun i h h' st k => let ⟨⟨old, he⟩, hi⟩ := st; ⟨⟨old, k e (by simp) _ he⟩, hi.at fun o q => k it (by simp) o q⟩
  item := by
    intro X hP hw hK hc i pins s σ H E I hf st hg
    subst hP hw hK
    obtain ⟨⟨old, he⟩, hit⟩ := st
    obtain ⟨xs, x, hq, hx⟩ := hg
    obtain ⟨its, rv, p, hz⟩ := I.tuple hq
    obtain ⟨u, hu, ru⟩ := rv.get hx
    have hel : e < s.heap.objs.size := Heap.lt_size he
    have hil : it < s.heap.objs.size := by obtain ⟨_, q, _⟩ := hit; exact Heap.lt_size q
    have D := Draws.tuple (prog := X.prog) (w := X.w) (A := X.A.in1) (I.ok.hd hc) it a hai its.toArray
    have hisz : i < its.toArray.size := by
      have := (List.getElem?_eq_some_iff.mp hu).1
      simpa using this
    have hef : e ≠ a := fun hef => by
      obtain ⟨o, ho, hcl, _⟩ := p
      rw [← hef, he] at ho
      cases ho
      exact absurd (show Value.type "enumerate" = Value.type "tuple" from hcl) (by decide)
    refine wpAny_pyNext_enum_itemD (i := i) D he ⟨hit, p⟩ hisz hne (by simp [hne, hef]) fun y h' tk hy ho hst' hT hsz hk => ?_
    obtain ⟨hit', _⟩ := hst'
    have ey : y = u := by
      have : its.toArray[i]? = some u := by simpa using hu
      rw [this] at hy
      exact (Option.some.inj hy).symm
    subst ey
    refine ⟨_, rfl, wpAny_letOwnedTupleGo_enum (s := { s with heap := h', toks := tk + 1 }) ho fun h'' he' sb => ?_⟩
    have hT2 : h''.get? s.heap.objs.size = some { cls := .type "tuple", data := .seq #[.int i tk, y] } := (sb.2 _ (Nat.ne_of_gt hel)).trans hT
    have new : ObjOk X.prog X.w (upd H s.heap.objs.size (.tup [.int (i : Nat), x])) h'' s.heap.objs.size (.tup [.int (i : Nat), x]) :=
      ⟨by show 2 ≤ sizeLine; decide, [.int i tk, y], .cons ⟨_, rfl⟩ (.cons ru .nil), ⟨_, hT2, rfl, _, rfl⟩⟩
    have I1 : Inv X pins σ (upd H s.heap.objs.size (.tup [.int (i : Nat), x])) { s with heap := h'', toks := tk + 1 } :=
      I.turnedNew (ch := [e, it]) (fun b ob hb q => (sb.2 b (fun z => hb (by simp [z]))).trans (hk b ob (fun z => hb (by simp [z])) (fun z => hb (by simp [z])) q)) hf (Nat.le_refl _) new
    refine ⟨.ref s.heap.objs.size, _, I1, rfl, ⟨_, x, rfl, I.hok.fresh (Nat.le_refl _), rfl, fun ys hy => by rw [I.tuple_inj hy hq]; exact hx⟩, ⟨⟨y, ?_⟩, hit'.at fun o q => (sb.2 it (Ne.symm hne)).trans q⟩, fun b hb => ?_⟩
    · have e1 : ((i + 1 : Nat) : Int) = (i : Int) + 1 := by omega
      rw [e1]; exact he'
    · have hb' : b < s.heap.objs.size := by
        have e' : b = e ∨ b = it := by simpa using hb
        rcases e' with z | z
        · rw [z]; exact hel
        · rw [z]; exact hil
      rw [upd_ne (Nat.ne_of_lt hb')]
      exact (hf b hb).1
  done := by
    intro X hP hw hK hc i pins s σ H E I hf st hg
    subst hP hw hK
    obtain ⟨⟨old, he⟩, hit⟩ := st
    obtain ⟨xs, hq, hx⟩ := hg
    obtain ⟨its, rv, p, hz⟩ := I.tuple hq
    obtain ⟨f0, f1, f2, f3, f4, f5⟩ := hf it (by simp)
    have hl := rv.length
    subst hx
    have hi : xs.length = its.toArray.size := by simp [hl]
    refine wpAny_pyNext_enum_endD (Draws.tuple (prog := X.prog) (w := X.w) (A := X.A.in1) (I.ok.hd hc) it a hai its.toArray) he ⟨by rw [← hi]; exact hit, p⟩ fun h' eb => ⟨rfl, I.turned (t' := s.toks) (fun b o hb q => eb b o hb q) f0 f1 f3 f4 f5⟩
  self := fun A i s Q E st h => let ⟨⟨_, he⟩, _⟩ := st; wpAny_pyIter_enum he h
def iEnumT (K : PySem.W.Frag) (ta : TA) : TI := fun σ H R => ta σ H fun vs H1 => ∃ a xs, vs = [.ref a] ∧ SqT K H1 a xs ∧ R (IteT K a) H1
theorem pi_enumT {X : Cx} {e : Expr} {ta : TA} {p pos tpos : Pos} {elts : List Expr} {kk : Nat} (hg : Gl X "enumerate") (hm : X.mg "enumerate" = none) (ha : PA X [e] ta) (hs : starEach [e] X.env = [(false, eval e X.env)] := by rfl) :
    PI X (.Tuple elts kk tpos) (.Call (.Name "enumerate" p) [e] [] pos) (iEnumT X.K ta) := by
  refine ⟨fun pins s σ H R I h => ?_⟩
  refine Call_ (ld_blt I hg hm boot_enumerate (PyProof.Rows.callWith_type1 (thn (ha.run pos pins s σ H _ I h) fun us s1 ⟨vs, H1, I1, r1, q1⟩ => ?_) hs rfl))
  obtain ⟨a, xs, ex, hq, q⟩ := q1
  subst ex
  cases r1 with
  | cons r rr =>
    cases rr
    cases r
    obtain ⟨its, rv, p', hz⟩ := I1.tuple hq
    have hal : a < s1.heap.objs.size := by
      obtain ⟨o, ho, _⟩ := id p'
      exact Heap.lt_size ho
    refine enum_begins1 (begins_tuple a its.toArray) p' fun h' he hit hsz hk => wpAny_pyIter_enum he ?_
    have I2 : Inv X pins σ H1 { s1 with heap := h' } := I1.kept (t' := s1.toks) hk
    refine ⟨s1.heap.objs.size + 1, [s1.heap.objs.size + 1, s1.heap.objs.size], _, _, H1, rfl, I2, turn_enumT a (s1.heap.objs.size + 1) s1.heap.objs.size (Nat.succ_ne_self _) (Nat.ne_of_lt hal), ⟨⟨.none, he⟩, ⟨_, hit, rfl, rfl⟩⟩, fun b hb => ?_, q⟩
    have e' : b = s1.heap.objs.size + 1 ∨ b = s1.heap.objs.size := by simpa using hb
    have hle : s1.heap.objs.size ≤ b := by
      rcases e' with z | z
      · rw [z]; exact Nat.le_add_right _ _
      · rw [z]; exact Nat.le_refl _
    exact I1.fpOk hle (I1.hok.fresh hle)
theorem walk_enumT {K : PySem.W.Frag} {a : Addr} {xs : List V} : Walk (IteT K a) xs.length (fun H => SqT K H a xs) (YPair (fun i => some (.int (i : Nat))) (fun i => xs[i]?)) := by
  refine ⟨fun i _ hi q => ⟨xs, xs[i], q, by simp [hi]⟩, fun _ q => ⟨xs, q, rfl⟩, fun i H v H' _ q y => ?_⟩
  obtain ⟨T, x, h1, h2, h3, h4⟩ := y
  exact ⟨T, .int (i : Nat), x, h1, h2, h3, rfl, h4 xs q⟩
def iEnT (A : DEnv → M (List D)) : DEnv → M (List D) := fun ρ n =>
  match A ρ n with
  | some ([.tuple ds], n') => some (enumD 0 ds, n')
  | _ => none
theorem id_enumT {X : Cx} {ns : List Int} {c : Md} {W : List Nat} {e : Expr} {A : DEnv → M (List D)} {p pos : Pos} {elts : List Expr} {kk : Nat} {tpos : Pos} (hg : Gl X "enumerate") (hm : X.mg "enumerate" = none) (ha : AD X ns c W [e] A) (hs : starEach [e] X.env = [(false, eval e X.env)] := by rfl) : ID X ns c W (.Tuple elts kk tpos) (.Call (.Name "enumerate" p) [e] [] pos) (iEnT A) := by
  refine pi_weak (pi_enumT hg hm ha hs) fun σ H R q => ?_
  obtain ⟨Hs0, H0, Hs, ρ, n, ds, n', r, e, q⟩ := q
  unfold iEnT at e
  split at e
  · rename_i ds' n1 h1
    cases e
    refine ⟨Hs0, H0, Hs, ρ, n, _, _, r, h1, fun vs Hs' H' e1 c1 r1 => ?_⟩
    obtain ⟨v, rfl, rv⟩ := pr1 r1
    obtain ⟨a, xs, rfl, h2, r2⟩ := rv.tuple
    have sb := (r.step e1 c1).sub
    refine ⟨a, xs, rfl, Same.seqT sb h2, q _ Hs' H' e1 c1 (walkD_pair walk_enumT (by rw [enumD_len, r2.length]) (fun H s => Same.seqT s h2) fun i d hd => ?_)⟩
    obtain ⟨x, hx, rfl⟩ := enumD_get hd
    refine ⟨_, _, rfl, fun x' e => ?_, fun y e => ?_⟩
    · cases e
      rw [Nat.zero_add]
      exact .int _
    · obtain ⟨d', h3, h4⟩ := r2.get e
      rw [hx] at h3
      cases h3
      exact h4
  · cases e
end DL
/-! DLh: a comprehension with two fors. -/
namespace DL
open PySem PySem.Spec PyProof.Rows L2

/-- the items made by two fors -/
def dComp2 (g : TgD) (t : DEnv → M Bool) (it1 : DEnv → M (List D)) (vs1 : List Nat) (g1 : TgD) (t1 : DEnv → M Bool) (f : DEnv → M D) (ρ : DEnv) : List D → M (List D)
  | [] => fun n => some ([], n)
  | d :: ds => fun n => match g d ρ with
    | none => none
    | some ρ1 => match t ρ1 n with
      | some (true, n1) => match it1 ρ1 n1 with
        | some (ds1, n2) => match dComp g1 t1 f (wipeD ρ1 vs1) ds1 n2 with
          | some (xs, n3) => match dComp2 g t it1 vs1 g1 t1 f ρ ds n3 with
            | some (ys, n4) => some (xs ++ ys, n4)
            | none => none
          | none => none
        | none => none
      | some (false, n1) => dComp2 g t it1 vs1 g1 t1 f ρ ds n1
      | none => none
def dLc2 (it : DEnv → M (List D)) (vs : List Nat) (g : TgD) (t : DEnv → M Bool) (it1 : DEnv → M (List D)) (vs1 : List Nat) (g1 : TgD) (t1 : DEnv → M Bool) (f : DEnv → M D) : DEnv → M D := fun ρ n =>
  match it ρ n with
  | some (ds, n1) => match dComp2 g t it1 vs1 g1 t1 f (wipeD ρ vs) ds n1 with
    | some (xs, n2) => if xs.length ≤ LIM then some (.list xs, n2) else none
    | none => none
  | none => none
section
variable {X : Cx} {fr : FR} {ns : List Int} {c : Md} {W : List Nat} {e tg iter tg1 iter1 : Expr} {f : DEnv → M D} {pos : Pos} {t t1 : DEnv → M Bool}
/-- what a comprehension keeps: the new list D, what was there -/
structure Mk1 (K : PySem.W.Frag) (c : Md) (Hs1 H1 : Hp) (D : Addr) (Hs H : Hp) (done : List V) (dn : List DL.D) : Prop where
  st : Same Hs1 Hs
  fr : Hs D = none
  al : SameC c H1 H
  at' : H D = some (.lst done)
  rp : RpAll K Hs done dn
  new : ∀ p, Hs p ≠ none → Hs1 p ≠ none ∨ H1 p = none
theorem Mk1.step {K : PySem.W.Frag} {Hs1 H1 Hs H Hs' H' : Hp} {D : Addr} {done : List V} {dn : List DL.D} {n : Nat} (b : Mk1 K c Hs1 H1 D Hs H done dn) (hcD : ∀ q, c = some q → D ≠ q.1) (cl : Cel c n H) (e : Ext c Hs H Hs' H') : Mk1 K c Hs1 H1 D Hs' H' done dn where
  st := Same.trans' b.st e.st
  fr := e.keep0 b.fr (by rw [b.at']; exact fun z => nomatch z)
  al := fun p o hp h => e.al p o hp (b.al p o hp h)
  at' := e.al D _ hcD b.at'
  rp := RpAll.same e.st _ _ b.rp
  new := fun p hp => by
    rcases e.new p hp with z | z
    · exact b.new p z
    · right
      cases e' : H1 p with
      | none => rfl
      | some o =>
        by_cases hc : ∀ q, c = some q → p ≠ q.1
        · rw [b.al p o hc e'] at z; cases z
        · exact absurd (fun q hq zz => by rw [zz, cl q hq] at z; cases z) hc
theorem Mk1.push {K : PySem.W.Frag} {Hs1 H1 Hs H : Hp} {D : Addr} {done : List V} {dn : List DL.D} {v : V} {x : DL.D} (b : Mk1 K c Hs1 H1 D Hs H done dn) (h1 : H1 D = none) (r : Rp K Hs v x) : Mk1 K c Hs1 H1 D Hs (upd H D (.lst (done ++ [v]))) (done ++ [v]) (dn ++ [x]) where
  st := b.st
  fr := b.fr
  al := fun p o hp h => by rw [upd_ne (ne_of_none h h1)]; exact b.al p o hp h
  at' := upd_same
  rp := b.rp.append (RpAll.one r)
  new := b.new
theorem Rel.push {K : PySem.W.Frag} {Hs0 H0 Hs H : Hp} {σ : L2.St} {ρ : DEnv} {n : Nat} {D : Addr} {o : HO} (R : Rel K ns c W Hs0 H0 Hs H σ ρ n) (h0 : H0 D = none) (hs : Hs D = none) (hcD : ∀ q, c = some q → D ≠ q.1) (hw : ∀ i ∈ W, σ[i]? ≠ some (some (.ref D))) : Rel K ns c W Hs0 H0 Hs (upd H D o) σ ρ n := by
  refine ⟨⟨R.ext.st, fun b o hb h => ?_, fun b o h => ?_, R.ext.new⟩, fun p hp => ?_, R.hc, R.vars, fun i hi => ?_, R.apart, R.len⟩
  · rw [upd_ne (ne_of_none h h0)]; exact R.ext.al b o hb h
  · rw [upd_ne (ne_of_none h hs)]; exact R.sub b o h
  · rw [upd_ne (fun z => hcD p hp z.symm)]; exact R.cel p hp
  · obtain ⟨p, vs', ds', a1, a2, a3, a4⟩ := R.own i hi
    have : p ≠ D := fun z => hw i hi (by rw [← z]; exact a2)
    exact ⟨p, vs', ds', a1, a2, by rw [upd_ne this]; exact a3, a4⟩
/-- a loop that fills D: one turn's end is J's own; σi: the slots a turn starts from; σo: others that are kept -/
theorem fillD {ts vs : List Nat} {g : TgD} {Hs0 H0 Hs1 H1 Hsa Ha : Hp} {σi σo : L2.St} {ρi ρo : DEnv} {D : Addr} {J : It} {ds : List DL.D} {na nb : Nat} {done0 : List V} {dn0 xs : List DL.D} {Nx : Hp → Prop} (hts : ∀ j ∈ ts, j ∈ vs) (hvW : ∀ i ∈ vs, i ∉ W)
    (hcD : ∀ q, c = some q → D ≠ q.1) (hD1 : H1 D = none) (hD0 : H0 D = none) (hwi : ∀ i ∈ W, σi[i]? ≠ some (some (.ref D))) (hwo : ∀ i ∈ W, σo[i]? ≠ some (some (.ref D)))
    (w : WalkD X.K J ds Hsa) (Ri : Rel X.K ns c W Hs0 H0 Hsa Ha σi ρi na) (Ro : Rel X.K ns c W Hs0 H0 Hsa Ha σo ρo na) (b : Mk1 X.K c Hs1 H1 D Hsa Ha done0 dn0) (hlim : dn0.length + xs.length ≤ LIM)
    (e : dComp g t f (wipeD ρi vs) ds na = some (xs, nb))
    (fin : ∀ Hsb Hb done, Rel X.K ns c W Hs0 H0 Hsb Hb σo ρo nb → Same Hsa Hsb → Mk1 X.K c Hs1 H1 D Hsb Hb done (dn0 ++ xs) → Nx Hb) :
    ∃ W1 : Nat → Nat → Hp → Prop, (∃ m, W1 0 m Ha) ∧ ∀ j k H, W1 j k H →
      (J.stop j H ∧ Nx H) ∨ (J.go j H ∧ ∃ Nx1 : Hp → Prop, (∀ H', Nx1 H' → ∃ k', k' < k ∧ W1 (j + 1) k' H') ∧ ∀ x H', J.yld j H x H' → tDG X.K ns c W ts g x (wipe σi vs) H' fun σ3 H5 => wipe σ3 vs = wipe σi vs ∧ tDT X.K ns c W t σ3 H5 fun b H6 =>
        if b = true then tD X.K ns c W f σ3 H6 fun y H7 => ∃ acc, H7 D = some (.lst acc) ∧ acc.length < sizeLine ∧ Nx1 (upd H7 D (.lst (acc ++ [y]))) else Nx1 H6) := by
  refine ⟨fun i m H => m = ds.length - i ∧ i ≤ ds.length ∧ ∃ Hs2 n3 done dn todo, Same Hsa Hs2 ∧ Rel X.K ns c W Hs0 H0 Hs2 H σi ρi n3 ∧ Rel X.K ns c W Hs0 H0 Hs2 H σo ρo n3 ∧ Mk1 X.K c Hs1 H1 D Hs2 H done dn ∧ dComp g t f (wipeD ρi vs) (ds.drop i) n3 = some (todo, nb) ∧ dn0 ++ xs = dn ++ todo,
    ⟨ds.length, by simp, Nat.zero_le _, Hsa, na, done0, dn0, xs, Same.rfl', Ri, Ro, b, by simpa using e, rfl⟩, ?_⟩
  rintro i m H2 ⟨rfl, hi, Hs2, n3, done, dn, todo, s2, R3, R3o, b3, e3, ex⟩
  by_cases hlt : i < ds.length
  · right
    refine ⟨w.goes i H2 (Same.trans' s2 R3.sub) hlt, fun H5 => ∃ Hs5 n5 done5 dn5 todo5, Same Hsa Hs5 ∧ Rel X.K ns c W Hs0 H0 Hs5 H5 σi ρi n5 ∧ Rel X.K ns c W Hs0 H0 Hs5 H5 σo ρo n5 ∧ Mk1 X.K c Hs1 H1 D Hs5 H5 done5 dn5 ∧ dComp g t f (wipeD ρi vs) (ds.drop (i + 1)) n5 = some (todo5, nb) ∧ dn0 ++ xs = dn5 ++ todo5,
      fun H5 h5 => ⟨ds.length - (i + 1), by omega, rfl, hlt, h5⟩, fun x H3 y => ?_⟩
    have hd : ds[i]? = some ds[i] := List.getElem?_eq_getElem hlt
    rw [List.drop_eq_getElem_cons hlt] at e3
    unfold dComp at e3
    obtain ⟨Hs3, ee3, r3⟩ := w.yields i Hs2 H2 x H3 _ s2 R3.sub hd y
    have R4 := R3.stepP ee3
    have R4o := R3o.stepP ee3
    have b4 := b3.step hcD R3.cel ee3.ext
    split at e3
    · cases e3
    · rename_i ρ1 hg1
      refine ⟨Hs0, H0, Hs3, wipeD ρi vs, n3, _, ρ1, R4.wipe hvW, r3, hg1, fun σ4 o4 R5 => ⟨(wipe_only o4 hts).trans wipe_idem, ?_⟩⟩
      split at e3
      · rename_i n6 ht6
        refine ⟨Hs0, H0, Hs3, ρ1, n3, true, n6, R5, ht6, fun Hs6 H6 e6 c6 => iteT ?_⟩
        have R6 := R5.step e6 c6
        have b6 := b4.step hcD R4.cel e6
        split at e3
        · rename_i x7 n7 hf7
          split at e3
          · rename_i hnd
            refine ⟨Hs0, H0, Hs6, ρ1, n6, x7, n7, R6, hf7, fun v7 Hs7 H7 e7 c7 r7 => ?_⟩
            have b7 := b6.step hcD c6 e7
            split at e3
            · rename_i xs8 n8 h8
              cases e3
              have hdl : done.length = dn.length := b3.rp.length
              have hxl : (dn0 ++ xs).length = (dn ++ x7 :: xs8).length := by rw [ex]
              refine ⟨done, b7.at', ?_, ?_⟩
              · rw [LIM_eq, hdl]
                simp only [List.length_append, List.length_cons] at hxl
                omega
              · have Rb : Rel X.K ns c W Hs0 H0 Hs7 H7 σi ρi n7 := (R4.step e6 c6).step e7 c7
                have Rbo : Rel X.K ns c W Hs0 H0 Hs7 H7 σo ρo n7 := (R4o.step e6 c6).step e7 c7
                exact ⟨Hs7, n7, done ++ [v7], dn ++ [x7], xs8, Same.trans' s2 (Same.trans' ee3.st (Same.trans' e6.st e7.st)), Rb.push hD0 b7.fr hcD hwi, Rbo.push hD0 b7.fr hcD hwo, b7.push hD1 (r7.rp (noDict_of hnd)), h8, by rw [ex]; simp⟩
            · cases e3
          · cases e3
        · cases e3
      · rename_i n6 ht6
        refine ⟨Hs0, H0, Hs3, ρ1, n3, false, n6, R5, ht6, fun Hs6 H6 e6 c6 => iteF ?_⟩
        exact ⟨Hs6, n6, done, dn, todo, Same.trans' s2 (Same.trans' ee3.st e6.st), R4.step e6 c6, R4o.step e6 c6, b4.step hcD R4.cel e6, e3, ex⟩
      · cases e3
  · left
    have ei : i = ds.length := by omega
    subst ei
    rw [List.drop_length] at e3
    cases e3
    rw [List.append_nil] at ex
    exact ⟨w.stops H2 (Same.trans' s2 R3.sub), fin Hs2 H2 done R3o s2 (by rw [ex]; exact b3)⟩
theorem tLc2D {ts ts1 vs vs1 : List Nat} {g g1 : TgD} {it it1 : DEnv → M (List D)} (hts : ∀ j ∈ ts, j ∈ vs) (hts1 : ∀ j ∈ ts1, j ∈ vs1) (hv1 : ∀ i ∈ vs1, i ∈ vs) (hvW : ∀ i ∈ vs, i ∉ W) (σ : L2.St) (H : Hp) (Q : VK) (q : tDF X.K ns c W (dLc2 it vs g t it1 vs1 g1 t1 f) σ H Q) :
    tLc2 (tDI X.K ns c W it) (tDG X.K ns c W ts g) (tDT X.K ns c W t) (tDI X.K ns c W it1) (tDG X.K ns c W ts1 g1) (tDT X.K ns c W t1) (tD X.K ns c W f) vs vs1 σ H Q := by
  obtain ⟨Hs0, H0, Hs, ρ, n, xs, n', R, e, q⟩ := q
  unfold dLc2 at e
  split at e
  · rename_i ds n1 h1
    split at e
    · rename_i xs' n2 h2
      obtain ⟨hlim, e'⟩ := Option.some_of_if e
      cases e'
      refine ⟨Hs0, H0, Hs, ρ, n, ds, n1, R, h1, fun J Hs1 H1 e1 c1 w D hD => ?_⟩
      have R1 := R.step e1 c1
      have hcD : ∀ q, c = some q → D ≠ q.1 := fun q hq z => by rw [z, c1 q hq] at hD; cases hD
      have hD0 : H D = none := by
        cases e : H D with
        | none => rfl
        | some o => rw [e1.al D o hcD e] at hD; cases hD
      have h00 : H0 D = none := (R.none0 hD0).1
      have hDs : Hs1 D = none := by
        cases e : Hs1 D with
        | none => rfl
        | some o => rw [R1.sub D o e] at hD; cases hD
      have hwσ : ∀ i ∈ W, σ[i]? ≠ some (some (.ref D)) := fun i hi z => by
        obtain ⟨p, vs', ds', a1, a2, a3, a4⟩ := R.own i hi
        rw [a2] at z
        cases z
        rw [hD0] at a3
        cases a3
      have b0 : Mk1 X.K c Hs1 H1 D Hs1 (upd H1 D (.lst [])) [] [] := ⟨Same.rfl', hDs, fun b o hb h => by rw [upd_ne (ne_of_none h hD)]; exact h, upd_same, .nil, fun p h => .inl h⟩
      have R2 : Rel X.K ns c W Hs0 H0 Hs1 (upd H1 D (.lst [])) σ ρ n1 := R1.push h00 hDs hcD hwσ
      refine ⟨fun i m H => m = ds.length - i ∧ i ≤ ds.length ∧ ∃ Hs2 n3 done dn todo, Same Hs1 Hs2 ∧ Rel X.K ns c W Hs0 H0 Hs2 H σ ρ n3 ∧ Mk1 X.K c Hs1 H1 D Hs2 H done dn ∧ dComp2 g t it1 vs1 g1 t1 f (wipeD ρ vs) (ds.drop i) n3 = some (todo, n') ∧ xs = dn ++ todo,
        ⟨ds.length, by simp, Nat.zero_le _, Hs1, n1, [], [], xs, Same.rfl', R2, b0, by simpa using h2, rfl⟩, ?_⟩
      rintro i m H2 ⟨rfl, hi, Hs2, n3, done, dn, todo, s2, R3, b3, e3, ex⟩
      by_cases hlt : i < ds.length
      · right
        refine ⟨w.goes i H2 (Same.trans' s2 R3.sub) hlt, fun H5 => ∃ Hs5 n5 done5 dn5 todo5, Same Hs1 Hs5 ∧ Rel X.K ns c W Hs0 H0 Hs5 H5 σ ρ n5 ∧ Mk1 X.K c Hs1 H1 D Hs5 H5 done5 dn5 ∧ dComp2 g t it1 vs1 g1 t1 f (wipeD ρ vs) (ds.drop (i + 1)) n5 = some (todo5, n') ∧ xs = dn5 ++ todo5,
          fun H5 h5 => ⟨ds.length - (i + 1), by omega, rfl, hlt, h5⟩, fun x H3 y => ?_⟩
        have hd : ds[i]? = some ds[i] := List.getElem?_eq_getElem hlt
        rw [List.drop_eq_getElem_cons hlt] at e3
        unfold dComp2 at e3
        obtain ⟨Hs3, ee3, r3⟩ := w.yields i Hs2 H2 x H3 _ s2 R3.sub hd y
        have R4 := R3.stepP ee3
        have b4 := b3.step hcD R3.cel ee3.ext
        split at e3
        · cases e3
        · rename_i ρ1 hg1
          refine ⟨Hs0, H0, Hs3, wipeD ρ vs, n3, _, ρ1, R4.wipe hvW, r3, hg1, fun σ4 o4 R5 => ⟨(wipe_only o4 hts).trans wipe_idem, ?_⟩⟩
          split at e3
          · rename_i n6 ht6
            refine ⟨Hs0, H0, Hs3, ρ1, n3, true, n6, R5, ht6, fun Hs6 H6 e6 c6 => iteT ?_⟩
            have R6 := R5.step e6 c6
            have R6o := R4.step e6 c6
            have b6 := b4.step hcD R4.cel e6
            split at e3
            · rename_i ds1 n7 hi7
              refine ⟨Hs0, H0, Hs6, ρ1, n6, ds1, n7, R6, hi7, fun J1 Hs7 H7 e7 c7 w7 => ?_⟩
              have R7 := R6.step e7 c7
              have R7o := R6o.step e7 c7
              have b7 := b6.step hcD c6 e7
              split at e3
              · rename_i xs8 n8 h8
                split at e3
                · rename_i ys n9 h9
                  cases e3
                  have hw4 : ∀ i ∈ W, σ4[i]? ≠ some (some (.ref D)) := fun i hi => by
                    have hnv : i ∉ vs := fun z => hvW i z hi
                    rw [o4.out i fun z => hnv (hts i z), wipe_out' hnv]
                    exact hwσ i hi
                  refine fillD hts1 (fun i h => hvW i (hv1 i h)) hcD hD h00 hw4 hwσ w7 R7 R7o b7 ?_ h8 fun Hsb Hb done' Rb sb bb => ?_
                  · have : xs.length = (dn ++ (xs8 ++ ys)).length := by rw [ex]
                    simp only [List.length_append] at this
                    omega
                  · exact ⟨Hsb, n8, done', dn ++ xs8, ys, bb.st, Rb, bb, h9, by rw [ex]; simp⟩
                · cases e3
              · cases e3
            · cases e3
          · rename_i n6 ht6
            refine ⟨Hs0, H0, Hs3, ρ1, n3, false, n6, R5, ht6, fun Hs6 H6 e6 c6 => iteF ?_⟩
            exact ⟨Hs6, n6, done, dn, todo, Same.trans' s2 (Same.trans' ee3.st e6.st), R4.step e6 c6, b4.step hcD R4.cel e6, e3, ex⟩
          · cases e3
      · left
        have ei : i = ds.length := by omega
        subst ei
        rw [List.drop_length] at e3
        cases e3
        rw [List.append_nil] at ex
        subst ex
        refine ⟨w.stops H2 (Same.trans' s2 R3.sub), q D done Hs2 H2 ⟨Same.trans' e1.st s2, fun b o hb h => b3.al b o hb (e1.al b o hb h), R3.sub, fun p hp => ?_⟩ R3.cel hD0 b3.fr b3.at' b3.rp⟩
        rcases b3.new p hp with z | z
        · exact e1.new p z
        · right
          cases e : H p with
          | none => rfl
          | some o =>
            by_cases hc : ∀ q, c = some q → p ≠ q.1
            · rw [e1.al p o hc e] at z; cases z
            · exact absurd (fun q hq zz => by rw [zz, c1 q hq] at z; cases z) hc
    · cases e
  · cases e
theorem dLc2_lst {it it1 : DEnv → M (List D)} {vs vs1 : List Nat} {g g1 : TgD} : fLst (dLc2 it vs g t it1 vs1 g1 t1 f) = dLc2 it vs g t it1 vs1 g1 t1 f := by
  funext ρ n
  unfold fLst dLc2
  cases it ρ n with
  | none => rfl
  | some p =>
    obtain ⟨ds, n1⟩ := p
    simp only
    cases dComp2 g t it1 vs1 g1 t1 f (wipeD ρ vs) ds n1 with
    | none => rfl
    | some p =>
      obtain ⟨xs, n2⟩ := p
      simp only
      by_cases h : xs.length ≤ LIM
      · rw [if_pos h]
      · rw [if_neg h]
theorem ed_lc2 {ifs ifs1 : List Expr} {scope : Scope} {own : List (Str × Nat)} {ts ts1 vs1 : List Nat} {g g1 : TgD} {it it1 : DEnv → M (List D)} (hc : X.calm = true) (hN : X.N.Nodup) (hi : ID X ns c W tg iter it) (ok : BlkOk X.N X.env.scope scope own) (hv1 : ∀ i ∈ vs1, i ∈ own.map (·.2))
    (hg : ∀ (s : Shared) (H : Hp) (C : Addr) (cl : List (Str × Addr)) (fp : List Addr), GD (X.blk s H scope (compEnvC scope cl C X.env) fp) ns c W ts tg g) (ht : ∀ (s : Shared) (H : Hp) (C : Addr) (cl : List (Str × Addr)) (fp : List Addr), TsD (X.blk s H scope (compEnvC scope cl C X.env) fp) ns c W ifs t)
    (hi1 : ∀ (s : Shared) (H : Hp) (C : Addr) (cl : List (Str × Addr)) (fp : List Addr), ID (X.blk s H scope (compEnvC scope cl C X.env) fp) ns c W tg1 iter1 it1)
    (hg1 : ∀ (s : Shared) (H : Hp) (C : Addr) (cl : List (Str × Addr)) (fp : List Addr), GD (X.blk s H scope (compEnvC scope cl C X.env) fp) ns c W ts1 tg1 g1) (ht1 : ∀ (s : Shared) (H : Hp) (C : Addr) (cl : List (Str × Addr)) (fp : List Addr), TsD (X.blk s H scope (compEnvC scope cl C X.env) fp) ns c W ifs1 t1)
    (he : ∀ (s : Shared) (H : Hp) (C : Addr) (cl : List (Str × Addr)) (fp : List Addr), ED (X.blk s H scope (compEnvC scope cl C X.env) fp) ns c W e f) (hts : ∀ j ∈ ts, j ∈ own.map (·.2) := by decide) (hts1 : ∀ j ∈ ts1, j ∈ vs1 := by decide) (hvW : ∀ i ∈ own.map (·.2), i ∉ W := by decide) (hs : ∀ x, foldedSetIterable iter X.env x = pure x := by intro _; rfl) (hs1 : ∀ env x, foldedSetIterable iter1 env x = pure x := by intro _ _; rfl) :
    ED X ns c W (.ListComp e [⟨tg, iter, ifs, 0⟩, ⟨tg1, iter1, ifs1, 0⟩] scope pos) (dLc2 it (own.map (·.2)) g t it1 vs1 g1 t1 f) := by
  have : FD X ns c W (.ListComp e [⟨tg, iter, ifs, 0⟩, ⟨tg1, iter1, ifs1, 0⟩] scope pos) (dLc2 it (own.map (·.2)) g t it1 vs1 g1 t1 f) :=
    pe_weak (pe_lc2 hc hN hi ok hv1 hg ht hi1 hg1 ht1 he hs hs1) (tLc2D hts hts1 hv1 hvW)
  have := ed_fresh this
  rw [dLc2_lst] at this
  exact this
end
end DL
/-! DLi: the script and the list that counts draws. -/
namespace DL
open PySem PySem.Spec PyProof.Rows L2
def scrD (ns : List Int) : D := .list (ns.map PyData.int)
/-- len, also of the two markers -/
def dLenN (ns : List Int) (A : DEnv → M (List D)) : DEnv → M D := fun ρ n =>
  match A ρ n with
  | some ([.dict []], n') => some (.int n', n')
  | some ([.dict [(.none, .none)]], n') => some (.int ns.length, n')
  | some (ds, n') => match hLen ds with
    | some z => some (z, n')
    | none => none
  | none => none
def hIxN (ns : List Int) (x y : D) : Option D := match x, y with
  | .dict [(.none, .none)], .int i => match atI ns i with
    | some z => some (.int z)
    | none => none
  | x, y => hIx x y
def dEqS (ns : List Int) (f : DEnv → M D) : DEnv → M Bool := fun ρ n =>
  match f ρ n with
  | some (.dict [(.none, .none)], n') => if SeqAt.shaped (scrD ns) = true then some (PyData.eqv (scrD ns) (.list []), n') else none
  | _ => none
section
variable {X : Cx} {fr : FR} {ns : List Int} {c : Md} {W Wb : List Nat} {a b e k : Expr} {es : List Expr} {f g u : DEnv → M D} {pos p : Pos} {A : DEnv → M (List D)} {x : Str}
theorem SRep.mSt {K : PySem.W.Frag} {H : Hp} {v : V} (h : SRep K ns c H v mkSt) : ∃ p, c = some p ∧ v = .ref p.1 := by
  rcases h with h | ⟨_, h⟩ | ⟨h, _⟩ | ⟨_, _, _, _, _, _, _, _, _, _, h⟩ | ⟨_, _, _, _, _, sp, h⟩
  · cases h
  · exact h
  · cases h
  · cases h
  · cases h
theorem SRep.mSc {K : PySem.W.Frag} {H : Hp} {v : V} (h : SRep K ns c H v mkSc) : ∃ p, c = some p ∧ v = .ref p.2 ∧ SqL K H p.2 (ns.map V.int) := by
  rcases h with h | ⟨h, _⟩ | ⟨_, h⟩ | ⟨_, _, _, _, _, _, _, _, _, _, h⟩ | ⟨_, _, _, _, _, sp, h⟩
  · cases h
  · cases h
  · exact h
  · cases h
  · cases h
    rcases sp with ⟨_, ⟨_, _, _, z, _⟩ | ⟨_, _, z, _⟩⟩ | ⟨_, ⟨_, z⟩ | ⟨_, z, _⟩⟩ <;> cases z
theorem ed_lenN (hg : Gl X "len") (hm : X.mg "len" = none) (ha : AD X ns c W (e :: es) A) 
    (he : starEach (e :: es) X.env = (false, eval e X.env) :: starEach es X.env := by rfl) (hpl : (backTo pos (starEach es X.env)).any (·.1) = false := by rfl) : ED X ns c W (.Call (.Name "len" p) (e :: es) [] pos) (dLenN ns A) := by
  refine pe_weak (pe_callB call_len_seq hg hm PySem.boot_len ha (by decide) (by decide) he hpl) fun σ H Q q => ?_
  obtain ⟨Hs0, H0, Hs, ρ, n, z, n', R, e, q⟩ := q
  unfold dLenN at e
  split at e
  · rename_i n1 h1
    cases e
    refine ⟨Hs0, H0, Hs, ρ, n, _, _, R, h1, fun vs Hs1 H1 e1 c1 r1 => ?_⟩
    obtain ⟨v, rfl, rv⟩ := pr1 r1
    obtain ⟨pp, hc, rfl⟩ := rv.mSt
    refine ⟨pp.1, _, rfl, .inl (SqL.of (c1 pp hc)), ?_⟩
    rw [List.length_replicate]
    exact q _ Hs1 H1 e1 c1 (.inl (.int _))
  · rename_i n1 h1
    cases e
    refine ⟨Hs0, H0, Hs, ρ, n, _, _, R, h1, fun vs Hs1 H1 e1 c1 r1 => ?_⟩
    obtain ⟨v, rfl, rv⟩ := pr1 r1
    obtain ⟨pp, hc, rfl, hs⟩ := rv.mSc
    refine ⟨pp.2, _, rfl, .inl ((R.step e1 c1).sub.seq hs), ?_⟩
    rw [List.length_map]
    exact q _ Hs1 H1 e1 c1 (.inl (.int _))
  · rename_i ds n1 _ _ h1
    split at e
    · rename_i z' hz
      cases e
      refine ⟨Hs0, H0, Hs, ρ, n, _, _, R, h1, fun vs Hs1 H1 e1 c1 r1 => ?_⟩
      exact cb_len ns c Hs1 H1 vs _ _ Q (R.step e1 c1).sub r1 hz fun v Hs2 H2 e2 r2 => q v Hs2 H2 (e1.trans c1 e2.ext) (e2.cel c1) (.inl r2)
    · cases e
  · cases e
theorem ed_itemN (ha : ED X ns c W a f) (hb : ED X ns c W b g) (hs : PlainIx b := by exact fun _ _ => rfl) : ED X ns c W (.Subscript a b pos) (dBin (hIxN ns) f g) := by
  refine pe_weak (pe_ix ix_seq ha hb hs) fun σ H Q q => ?_
  obtain ⟨Hs0, H0, Hs, ρ, n, z, n', R, e, q⟩ := q
  obtain ⟨x, n1, y, h1, h2, h3⟩ := dBin_some e
  refine ⟨Hs0, H0, Hs, ρ, n, x, n1, R, h1, fun v Hs1 H1 e1 c1 r1 => ?_⟩
  have R1 := R.step e1 c1
  refine ⟨Hs0, H0, Hs1, ρ, n1, y, n', R1, h2, fun u Hs2 H2 e2 c2 r2 => ?_⟩
  have R2 := R1.step e2 c2
  have r1' := r1.same e2.st
  unfold hIxN at h3
  split at h3
  · split at h3
    · rename_i z' hz
      cases h3
      obtain ⟨pp, hc, rfl, hs⟩ := r1'.mSc
      rw [r2.int]
      refine .inl ⟨pp.2, _, _, .int z', rfl, rfl, R2.sub.seq hs, ?_, q _ Hs2 H2 (e1.trans c1 e2) c2 (.inl (.int _))⟩
      unfold atI at hz ⊢
      rw [List.length_map]
      cases ei : ixN ns.length _ with
      | none => rw [ei] at hz; cases hz
      | some j =>
        rw [ei] at hz
        show (ns.map V.int)[j]? = _
        rw [List.getElem?_map]
        have hz' : ns[j]? = some z' := hz
        rw [hz']
        rfl
    · cases h3
  · exact r2_ix ns c Hs2 H2 v u x y z Q R2.sub r1' r2 h3 fun w Hs3 H3 e3 r3 => q w Hs3 H3 ((e1.trans c1 e2).trans c2 e3.ext) (e3.cel c2) (.inl r3)
theorem dpAll_ints {K : PySem.W.Frag} {H : Hp} : ∀ (ns : List Int), DpAll K H (ns.map V.int) (ns.map PyData.int)
  | [] => .nil
  | n :: ns => .cons (.int n) (dpAll_ints ns)
/-- script == [] -/
theorem td_eqS {pos2 : Pos} (hu : X.A.units + 64 < cLine) (ha : ED X ns c W a f) : TD X ns c W (.Compare a [.Eq] [.List [] pos2] pos) (dEqS ns f) := by
  refine pt_weak (pt_cmpR (op_eqD hu) ha (pe_lst pa_nil) (nomark _)) fun σ H Q q => ?_
  obtain ⟨Hs0, H0, Hs, ρ, n, z, n', R, e, q⟩ := q
  unfold dEqS at e
  split at e
  · rename_i n1 h1
    obtain ⟨hsh, e'⟩ := Option.some_of_if e
    cases e'
    refine ⟨Hs0, H0, Hs, ρ, n, _, _, R, h1, fun v Hs1 H1 e1 c1 r1 => ?_⟩
    have R1 := R.step e1 c1
    obtain ⟨pp, hc, rfl, hs⟩ := r1.mSc
    refine ⟨Nat.zero_le _, fun l hl => ?_⟩
    have e2 := ExtP.new1 (o := .lst []) R1.sub hl
    refine ⟨scrD ns, .list [], .lst ((Same.trans' R1.sub e2.al).seq hs) (dpAll_ints ns), .lst (SqL.of upd_same) .nil, hsh, by decide, _, rfl, ?_⟩
    exact q _ _ (e1.trans c1 e2.ext) (e2.cel c1)
  · cases e
/-- state.append(0) -/
def sCell (i : Nat) : SDen := fun ρ n => match ρ[i]? with
  | some (some (.dict [])) => if n < LIM then some (.nx ρ, n + 1) else none
  | _ => none
theorem sd_cell {i : Nat} {j : Nat} {p1 p2 apos cpos spos : Pos} (hi : X.N[i]? = some x) (hv : Vis X.env.scope x) (hiW : i ∉ W := by decide) (hd : (x == ("__debug__" : Str)) = false := by decide) (hcd : (x == ("__classdict__" : Str)) = false := by decide)
    (hbase : attributeBase (.Name x p1) "append" X.env (eval (.Name x p1) X.env) = eval (.Name x p1) X.env := by rfl)
    (hline : (apos.endLine == cpos.line) = true := by rfl)
    (hsw : swapsWith (.Call (.Attribute (.Name x p1) "append" apos) [.Constant (.int 0) j p2] [] cpos) none spos.line X.env = pure false := by rfl) :
    SD X fr ns c Wb W W (.Expr (.Call (.Attribute (.Name x p1) "append" apos) [.Constant (.int 0) j p2] [] cpos) spos) (sCell i) := by
  refine ps_weak (ps_expr (pe_bm PySem.F.plainAttrs_list PySem.F.slot_list_append PySem.F.type_list_append mt_append (pe_var hi hv hd hcd) (pa_cons pe_int pa_nil) hbase (by rfl) hline (by rfl) (by rfl)) hsw) fun E σ H q => ?_
  obtain ⟨Hs0, H0, Hs, ρ, n, o, n', R, e, q⟩ := q
  unfold sCell at e
  split at e
  · rename_i hρ
    obtain ⟨hl, e'⟩ := Option.some_of_if e
    cases e'
    obtain ⟨v, h1, h2⟩ := R.vars i _ hρ hiW
    obtain ⟨pp, hc, rfl⟩ := h2.mSt
    have hH := R.cel pp hc
    refine ⟨.ref pp.1, h1, .inl ⟨rfl, _, SqL.of hH⟩, pp.1, _, .int 0, rfl, rfl, hH, by rw [List.length_replicate, LIM_eq]; exact hl, ?_⟩
    have hup : List.replicate n (V.int 0) ++ [.int 0] = List.replicate (n + 1) (.int 0) := by rw [List.replicate_succ']
    rw [hup]
    refine q σ Hs _ Same.rfl' ⟨⟨R.ext.st, fun b o hb h => ?_, fun b o h => ?_, R.ext.new⟩, fun p' hp' => ?_, R.hc, R.vars, fun i' hi' => ?_, R.apart, R.len⟩
    · rw [upd_ne (hb pp hc)]; exact R.ext.al b o hb h
    · rw [upd_ne (ne_of_none h (R.hc pp hc))]; exact R.sub b o h
    · rw [hc] at hp'
      cases hp'
      exact upd_same
    · obtain ⟨p', vs', ds', a1, a2, a3, a4, a5, a6, a7⟩ := R.own i' hi'
      exact ⟨p', vs', ds', a1, a2, by rw [upd_ne (a7 pp hc)]; exact a3, a4, a5, a6, a7⟩
  · cases e
/-- state = [] of a law: from here on draws are counted -/
theorem pss_law {i : Nat} {px lp sp : Pos} {rest : List Stmt} {S : SDen} {W' : List Nat} (hN : X.N.Nodup) (hi : X.N[i]? = some x) (hx : Loc X.env.scope x) (ρ0 : DEnv) (i0 : Nat) (hs : swapsWith (.List [] lp) (some (.Name x px)) sp.line X.env = pure false := by rfl) (hf : X.fn x = true ∨ X.env.scope.names.lookup x = some .local := by first | exact .inl rfl | exact .inr rfl | assumption)
    (hr : ∀ c, SSD X ⟨false, wx⟩ ns c [] [] W' rest S) :
    PSs X (.Assign [.Name x px] (.List [] lp) sp :: rest) (fun E σ H => ∃ a : Addr, σ = (some (V.ref a)) :: List.replicate (X.N.length - 1) none ∧ 0 < i ∧ i < X.N.length ∧ SqL X.K H a (ns.map V.int) ∧
      ∃ n', S ((some mkSc :: List.replicate (X.N.length - 1) none).set i (some mkSt)) 0 = some (.rt (.bool true), n') ∧ ∀ H', E.rt (.bl true) H') := by
  refine ⟨fun pins s σ H E I q => ?_⟩
  obtain ⟨a, hσ, h0, hl, ha, n', e, q⟩ := q
  subst hσ
  refine (pss_cons (ps_set hN hi hx (pe_lst pa_nil) hs hf) (u := fun E' σ' H' => ∃ p : Addr, σ' = ((some (V.ref a)) :: List.replicate (X.N.length - 1) none).set i (some (.ref p)) ∧ H' = upd H p (.lst []) ∧ H p = none ∧ ∀ H'', E'.rt (.bl true) H'') ⟨fun pins s σ' H' E' I' q' => ?_⟩).run pins s _ H E I ⟨Nat.zero_le _, fun p hp => ⟨p, rfl, rfl, hp, q⟩⟩
  obtain ⟨p, rfl, rfl, hp, q'⟩ := q'
  refine (hr (some (p, a))).run pins s _ _ E' I' ⟨H, upd H p (.lst []), H, _, 0, _, n', ⟨⟨Same.rfl', fun _ _ _ h => h, fun b o h => by rw [upd_ne (ne_of_none h hp)]; exact h, fun b h => .inl h⟩, fun pp hpp => ?_, fun pp hpp => ?_, fun j d hj _ => ?_, fun j hj => absurd hj (by simp), fun j hj => absurd hj (by simp), ?_⟩, e, fun v Hs' H' _ _ r => ?_⟩
  · cases hpp; exact upd_same
  · cases hpp; exact hp
  · by_cases hji : i = j
    · subst hji
      rw [List.getElem?_set_self (by simp; omega)] at hj
      cases hj
      exact ⟨.ref p, List.getElem?_set_self (by simp; omega), .inr (.inl ⟨rfl, (p, a), rfl, rfl⟩)⟩
    · rw [List.getElem?_set_ne hji] at hj ⊢
      cases j with
      | zero =>
        simp at hj
        subst hj
        exact ⟨.ref a, by simp, .inr (.inr (.inl ⟨rfl, (p, a), rfl, rfl, ha⟩))⟩
      | succ j =>
        simp [List.getElem?_replicate] at hj
  · simp
  · rw [r.bool]
    exact q' H'
end
end DL
/-! DLj: tuple * int of any count; constants; short words for what gen.py prints. -/
namespace DL
open PySem PySem.Spec PyProof.Rows L2
open AutoSeq1 (wpAny_loadPart')
set_option maxHeartbeats 4000000 in
theorem tuple_mulS (l : Addr) (items : Array Value) (n : Nat) (dd : Option Addr) (sl : Array (Option Value)) (x : Int) (u : Tok) (c0 : (decide (x < -(2 ^ 63)) || decide (x ≥ 2 ^ 63)) = false) (c1 : (items.isEmpty || x == 1) = true) :
    Meets (Builtin.«tuple.__mul__» ⟨[.ref l, .int x u], []⟩) (fun _ R s => s.heap.get? l = some { cls := .type "tuple", dict := dd, data := .seq items n, slots := sl } ∧ R (.ok (.ret (Value.ref l))) s) :=
  .of_wp fun prog w A R s h => by
    obtain ⟨hp, g, d, tk, os⟩ := s
    obtain ⟨hl, h⟩ := h
    have f1 := AutoSeq1.idx_int
    wp_walk using wpAny_loadPart' hl
    repeat (first
      | (refine wpAny_ite_false (decide_eq_false (by rw [c0]; exact Bool.false_ne_true)) ?_; wp_walk using wpAny_loadPart' hl)
      | (refine wpAny_ite_true (decide_eq_true c1) ?_; wp_walk using wpAny_loadPart' hl))
    exact ⟨_, rfl, h⟩
set_option maxHeartbeats 4000000 in
theorem tuple_mul0 (l : Addr) (items : Array Value) (n : Nat) (dd : Option Addr) (sl : Array (Option Value)) (x : Int) (u : Tok) (c0 : (decide (x < -(2 ^ 63)) || decide (x ≥ 2 ^ 63)) = false) (c1 : (items.isEmpty || x == 1) = false) (c2 : (decide (x ≤ 0) || items.isEmpty) = true) :
    Meets (Builtin.«tuple.__mul__» ⟨[.ref l, .int x u], []⟩) (fun _ R s => s.heap.get? l = some { cls := .type "tuple", dict := dd, data := .seq items n, slots := sl } ∧
      R (.ok (.ret (Value.ref s.heap.objs.size))) { s with heap := s.heap.push { cls := Value.type "tuple", data := Data.seq #[] }, toks := s.toks }) :=
  .of_wp fun prog w A R s h => by
    obtain ⟨hp, g, d, tk, os⟩ := s
    obtain ⟨hl, h⟩ := h
    have f1 := AutoSeq1.idx_int
    wp_walk using wpAny_loadPart' hl
    repeat (first
      | (refine wpAny_ite_false (decide_eq_false (by rw [c0]; exact Bool.false_ne_true)) ?_; wp_walk using wpAny_loadPart' hl)
      | (refine wpAny_ite_false (decide_eq_false (by rw [c1]; exact Bool.false_ne_true)) ?_; wp_walk using wpAny_loadPart' hl)
      | (refine wpAny_ite_true (decide_eq_true c2) ?_; wp_walk using wpAny_loadPart' hl))
    exact ⟨_, rfl, h⟩
/-! ### tuple * int -/
def rRepD (K : PySem.W.Frag) : R2 := fun x y H Q => ∃ l k xs, x = .ref l ∧ y = .int k ∧ SqT K H l xs ∧ -(2 ^ 63) ≤ k ∧ k ≤ 1000 ∧ xs.length ≤ 1000 ∧ ((xs = [] ∨ k = 1) → Q (.ref l) H) ∧ (xs ≠ [] → k ≠ 1 → ∀ p, H p = none → Q (.ref p) (upd H p (.tup (List.replicate k.toNat xs).flatten)))
section
variable {X : Cx} {fr : FR}
theorem op_repD : OpR X (binaryOp .Mult) (rRepD X.K) := by
  intro pins s σ H x y v u Q I rx ry h
  obtain ⟨l, k, xs, rfl, rfl, hT, h1, h2, hz, qs, qn⟩ := h
  by_cases big : xs ≠ [] ∧ 2 ≤ k
  · exact op_repT pins s σ H _ _ v u Q I rx ry ⟨l, k, xs, rfl, rfl, hT, big.1, big.2, h2, hz, qn big.1 (by omega)⟩
  · cases rx
    obtain ⟨t, rfl⟩ := ry
    obtain ⟨its, r, ⟨⟨cls, dd, data, sl⟩, ho, hc, n, hd⟩, hs⟩ := I.tuple hT
    simp only at hc hd
    subst hc hd
    have hle : its.length = xs.length := r.length.symm
    have c0 : (decide (k < -(2 ^ 63)) || decide (k ≥ 2 ^ 63)) = false := by
      rw [decide_eq_false (by omega), decide_eq_false (by omega)] <;> rfl
    by_cases same : xs = [] ∨ k = 1
    · have c1 : (its.toArray.isEmpty || k == 1) = true := by
        rcases same with e | e
        · subst e
          have : its = [] := List.eq_nil_of_length_eq_zero hle
          subst this
          rfl
        · subst e
          simp
      refine wpAny_binaryOp_repeat_ref (T := "tuple") (U := "int") (by decide) ⟨_, ho, rfl⟩ (fun s' => typeIs_int s' k t) noFill_tuple_mul F.fills_int_mul F.slot_int_rmul repeat_tuple F.slot_int_index.lookup
        (call_meets F.slot_int_rmul (typeIs_int s k t) F.entry_int_rmul (F.args_int_rmul_2 _ _) (int_rmul_tuple k t l its.toArray n dd sl)
          ⟨ho, rfl, ⟨_, ho, rfl⟩, call_meets F.slot_tuple_mul ⟨_, ho, rfl⟩ F.entry_tuple_mul (F.args_tuple_mul_2 _ _) (tuple_mulS l its.toArray n dd sl k t c0 c1) ⟨ho, ?_⟩⟩)
      exact ⟨.ref l, H, I, rfl, qs same⟩
    · have hx : xs ≠ [] := fun e => same (.inl e)
      have hk1 : k ≠ 1 := fun e => same (.inr e)
      have hk : k ≤ 0 := by
        by_cases z : 2 ≤ k
        · exact absurd ⟨hx, z⟩ big
        · omega
      have hi : its.toArray.isEmpty = false := by
        cases its with
        | nil => exact absurd (List.eq_nil_of_length_eq_zero hle.symm) hx
        | cons a b => rfl
      have c1 : (its.toArray.isEmpty || k == 1) = false := by
        rw [hi, Bool.false_or]
        exact beq_eq_false_iff_ne.mpr hk1
      have c2 : (decide (k ≤ 0) || its.toArray.isEmpty) = true := by
        rw [decide_eq_true hk]; rfl
      have hf : (List.replicate k.toNat xs).flatten = [] := by
        have : k.toNat = 0 := by omega
        rw [this]; rfl
      rw [hf] at qn
      refine wpAny_binaryOp_repeat_ref (T := "tuple") (U := "int") (by decide) ⟨_, ho, rfl⟩ (fun s' => typeIs_int s' k t) noFill_tuple_mul F.fills_int_mul F.slot_int_rmul repeat_tuple F.slot_int_index.lookup
        (call_meets F.slot_int_rmul (typeIs_int s k t) F.entry_int_rmul (F.args_int_rmul_2 _ _) (int_rmul_tuple k t l its.toArray n dd sl)
          ⟨ho, rfl, ⟨_, ho, rfl⟩, call_meets F.slot_tuple_mul ⟨_, ho, rfl⟩ F.entry_tuple_mul (F.args_tuple_mul_2 _ _) (tuple_mul0 l its.toArray n dd sl k t c0 c1 c2) ⟨ho, ?_⟩⟩)
      refine ⟨.ref s.heap.objs.size, _, I.laid (t' := s.toks) (o := .tup []) (fun b ob q => Heap.get?_push_of_some _ q) (Nat.le_refl _) ?_, rfl, qn hx hk1 _ (I.hok.fresh (Nat.le_refl _))⟩
      exact ⟨Nat.zero_le _, [], .nil, IsTup.new _ _⟩
end
def hMul : D → D → Option D
  | .tuple xs, .int k => if -(2 ^ 63) ≤ k ∧ k ≤ 1000 ∧ xs.length ≤ 1000 then some (.tuple (List.replicate k.toNat xs).flatten) else none
  | x, y => hMulI x y
theorem r2_mulD {K : PySem.W.Frag} : R2D K (fun x y H Q => rMulD x y H Q ∨ rRepD K x y H Q) hMul := by
  intro ns c Hs H x y d e z Q s rx ry hz q
  unfold hMul at hz
  split at hz
  · rename_i ds k
    obtain ⟨p, rfl⟩ := Option.some_of_if hz
    obtain ⟨a, xs, rfl, h1, r1⟩ := rx.tuple
    rw [ry.int]
    refine .inr ⟨a, k, xs, rfl, rfl, Same.seqT s h1, p.1, p.2.1, by rw [r1.length]; exact p.2.2, fun same => ?_, fun hx hk t ht => ?_⟩
    · have hf : (List.replicate k.toNat ds).flatten = ds := by
        rcases same with e | e
        · subst e
          have : ds = [] := List.eq_nil_of_length_eq_zero r1.length.symm
          subst this
          simp
        · subst e
          simp
      rw [hf] at q
      exact q _ Hs H (ExtP.refl s) (.tup h1 r1)
    · have e3 := ExtP.new1 (o := .tup (List.replicate k.toNat xs).flatten) s ht
      exact q _ _ _ e3 (.tup (SqT.of upd_same) (RpAll.same e3.st _ _ (r1.rep _)))
  · exact .inl (r2_mul ns c Hs H x y d e z Q s rx ry hz q)
section
variable {X : Cx} {fr : FR} {ns : List Int} {c : Md} {W W' Wb : List Nat} {a b e k tg iter : Expr} {es : List Expr} {f g u : DEnv → M D} {pos p : Pos} {A : DEnv → M (List D)} {x : Str}
theorem ed_mulD (ha : ED X ns c W a f) (hb : ED X ns c W b g) : ED X ns c W (.BinOp a .Mult b pos) (dBin hMul f g) := ed_op (OpR.or op_mulD op_repD) r2_mulD ha hb

/-! ### constants of the module -/
mutual
def konst (K : PySem.W.Frag) : Value → D → Bool
  | .none, .none => true
  | .bool b, .bool b' => b == b'
  | .int i _, .int j => i == j
  | .str x _, .str y => decide (x = y)
  | .ref a, .tuple ds => match K.lookup a with
    | some ⟨.type "tuple", _, .seq its _, _⟩ => decide (its.size ≤ 1000) && konstAll K its.toList ds
    | _ => false
  | _, _ => false
def konstAll (K : PySem.W.Frag) : List Value → List D → Bool
  | [], [] => true
  | u :: us, d :: ds => konst K u d && konstAll K us ds
  | _, _ => false
end
mutual
theorem konst_rp {K : PySem.W.Frag} : ∀ (d : D) (u : Value), konst K u d = true → ∃ v, RelV v u ∧ ∀ H, Rp K H v d
  | .none, u, h => by
    cases u <;> first | (exact ⟨.non, rfl, fun _ => .non⟩) | (simp [konst] at h)
  | .bool b, u, h => by
    cases u with
    | bool b' => simp [konst] at h; subst h; exact ⟨.bl _, rfl, fun _ => .bl _⟩
    | _ => simp [konst] at h
  | .int b, u, h => by
    cases u with
    | int b' t => simp [konst] at h; subst h; exact ⟨.int _, ⟨_, rfl⟩, fun _ => .int _⟩
    | _ => simp [konst] at h
  | .str b, u, h => by
    cases u with
    | str b' t => simp [konst] at h; subst h; exact ⟨.str _, ⟨_, rfl⟩, fun _ => .str _⟩
    | _ => simp [konst] at h
  | .list ds, u, h => by cases u <;> simp [konst] at h
  | .dict ds, u, h => by cases u <;> simp [konst] at h
  | .tuple ds, u, h => by
    cases u with
    | ref a =>
      unfold konst at h
      split at h
      · rename_i dd its n sl hl
        rw [Bool.and_eq_true, decide_eq_true_eq] at h
        obtain ⟨vs, r, rp⟩ := konst_rpAll ds its.toList h.2
        exact ⟨.ref a, rfl, fun H => .tup (.inr ⟨_, its, n, hl, rfl, rfl, by rw [sizeLine_eq]; omega, r⟩) (rp H)⟩
      · cases h
    | _ => simp [konst] at h
theorem konst_rpAll {K : PySem.W.Frag} : ∀ (ds : List D) (us : List Value), konstAll K us ds = true → ∃ vs, Vals vs us ∧ ∀ H, RpAll K H vs ds
  | [], us, h => by
    cases us with
    | nil => exact ⟨[], .nil, fun _ => .nil⟩
    | cons _ _ => simp [konstAll] at h
  | d :: ds, us, h => by
    cases us with
    | nil => simp [konstAll] at h
    | cons u us =>
      unfold konstAll at h
      rw [Bool.and_eq_true] at h
      obtain ⟨v, r1, r2⟩ := konst_rp d u h.1
      obtain ⟨vs, r3, r4⟩ := konst_rpAll ds us h.2
      exact ⟨v :: vs, .cons r1 r3, fun H => .cons (r2 H) (r4 H)⟩
end
structure KonD (K : PySem.W.Frag) (mg : Str → Option Value) (x : Str) (d : D) : Prop where
  ex : ∃ u v, mg x = some u ∧ RelV v u ∧ ∀ H, Rp K H v d
theorem KonD.of {K : PySem.W.Frag} {h : Heap} {mg : Str → Option Value} {d : D} (X : K.In h) (G : h.Ns mainGlobals mg) (q : ∃ u, PySem.W.nsIn K mainGlobals x = some (some u) ∧ konst K u d = true) : KonD K mg x d := by
  obtain ⟨u, h1, h2⟩ := q
  obtain ⟨v, r1, r2⟩ := konst_rp d u h2
  exact ⟨u, v, PySem.W.mg_of X G h1, r1, r2⟩
theorem KonD.ed {d : D} (k : KonD X.K X.mg x d) (hg : Gl X x) (hd : (x == ("__debug__" : Str)) = false := by decide) : ED X ns c W (.Name x pos) (dC d) := by
  obtain ⟨u, v, h1, r1, r2⟩ := k.ex
  exact ed_glob hg h1 r1 r2 hd

/-! ### defs that are called -/
structure CalD (P : Program) (w : World) (K : PySem.W.Frag) (mg : Str → Option Value) (base : Heap) (k : Nat) (x : Str) (ar : Nat) (m : List Int → List D → M D) : Prop where
  ex : ∃ (f : Addr) (fd : FuncData) (ps : List Str), (∀ ns, FnOk P w K mg base CX0 k f fd ps (spD K ns ar (m ns))) ∧ mg x = some (.ref f) ∧ PySem.W.keepIn K (.ref f) = true ∧ Binds K fd ps []
theorem ed_calD {kk ar : Nat} {m : List Int → List D → M D} {fs : List (DEnv → M D)} (C : CalD X.prog X.w X.K X.mg X.base kk x ar m) (hr : Room kk X.A) (hg : Gl X x) (ha : AD X ns c W (e :: es) (dAs fs)) (har : fs.length = ar := by rfl) (hdb : (x == ("__debug__" : Str)) = false := by decide)
    (he : starEach (e :: es) X.env = (false, eval e X.env) :: starEach es X.env := by rfl) (hpl : (backTo pos (starEach es X.env)).any (·.1) = false := by rfl) : ED X ns c W (.Call (.Name x p) (e :: es) [] pos) (dCall (m ns) (dAs fs)) := by
  obtain ⟨f, fd, ps, F, hm, hk, hb⟩ := C.ex
  exact ed_call (E := E0) (F ns) hr hg hm hk hb pass0 ha har hdb he hpl
def spLaw (K : PySem.W.Frag) : Sp := fun vs H Q _ => ∃ (a : Addr) (ns : List Int), vs = [.ref a] ∧ SqL K H a (ns.map V.int) ∧ ns.length ≤ 63 ∧ ∀ H', Q (.bl true) H'

/-! ### short words -/
theorem dv (i : Nat) (hN : X.N[i]? = some x := by rfl) (hv : Vis X.env.scope x := by first | exact .inl rfl | exact .inr (.inl rfl) | exact .inr (.inr rfl)) (hi : i ∉ W := by decide) (hd : (x == ("__debug__" : Str)) = false := by decide) (hcd : (x == ("__classdict__" : Str)) = false := by decide) : ED X ns c W (.Name x pos) (dVar i) := ed_var hN hv hi hd hcd
theorem gdn (i : Nat) (hN : X.N.Nodup) (hi : X.N[i]? = some x := by rfl) (hx : Loc X.env.scope x := by first | exact .inl rfl | exact .inr rfl) (hiW : i ∉ W := by decide) (hf : X.fn x = true ∨ X.env.scope.names.lookup x = some .local := by first | exact .inl rfl | exact .inr rfl) : GD X ns c W [i] (.Name x pos) (gNm i) := gd_name hN hi hx hiW hf
theorem idr1 (hm : X.mg "range" = none) (ha : AD X ns c W [a] A) (hg : Gl X "range" := by rfl) (hs : starEach [a] X.env = [(false, eval a X.env)] := by rfl) : ID X ns c W tg (.Call (.Name "range" p) [a] [] pos) (iR1 A) := id_range1 hg hm ha (pi_range1 hg hm ha hs)
theorem idr2 (hm : X.mg "range" = none) (ha : AD X ns c W [a, b] A) (hg : Gl X "range" := by rfl) (hs : starEach [a, b] X.env = [(false, eval a X.env), (false, eval b X.env)] := by rfl) (hs2 : starEach [b] X.env = [(false, eval b X.env)] := by rfl) : ID X ns c W tg (.Call (.Name "range" p) [a, b] [] pos) (iR2 A) := id_range2 hg hm ha (pi_range2 hg hm ha hs hs2)
def hAddI : D → D → Option D
  | .int i, .int j => some (.int (i + j))
  | _, _ => none
theorem r2_ipaddI {K : PySem.W.Frag} : R2D K (ipI fun i j => i + j) hAddI :=
  r2_int (fun x y z h => by cases x <;> cases y <;> first | exact ⟨_, _, rfl, rfl⟩ | cases h) fun i j z H Q h q => by cases h; exact ⟨i, j, rfl, rfl, q _ fun _ _ => .int _⟩
theorem sda_add (i : Nat) {pos' : Pos} (hN : X.N.Nodup) (he : ED X ns c W e f) (hi : X.N[i]? = some x := by rfl) (hx : Loc X.env.scope x := by first | exact .inl rfl | exact .inr rfl) (hiW : i ∉ W := by decide) (hf : X.fn x = true ∨ X.env.scope.names.lookup x = some .local := by first | exact .inl rfl | exact .inr rfl) : SD X fr ns c Wb W W (.AugAssign (.Name x pos') .Add e pos) (sAug i hAddI f) :=
  sd_aug hN hi hx (ps_aug hN hi hx he ip_add) r2_ipaddI hiW
theorem sda_sub (i : Nat) {pos' : Pos} (hN : X.N.Nodup) (he : ED X ns c W e f) (hi : X.N[i]? = some x := by rfl) (hx : Loc X.env.scope x := by first | exact .inl rfl | exact .inr rfl) (hiW : i ∉ W := by decide) (hf : X.fn x = true ∨ X.env.scope.names.lookup x = some .local := by first | exact .inl rfl | exact .inr rfl) : SD X fr ns c Wb W W (.AugAssign (.Name x pos') .Sub e pos) (sAug i hSubI f) :=
  sd_aug hN hi hx (ps_aug hN hi hx he ip_sub) r2_ipsub hiW
theorem sdp (i j : Nat) {y : Str} {px py pt : Pos} {kt k2 pt2} (hN : X.N.Nodup) (ha : AD X ns c W [a, b] A) (hc : X.calm = true := by rfl) (hi : X.N[i]? = some x := by rfl) (hj : X.N[j]? = some y := by rfl) (hij : i ≠ j := by decide)
    (hx : X.env.scope.names.lookup x = some .local := by rfl) (hy : X.env.scope.names.lookup y = some .local := by rfl)
    (hw : swappedStores [.Tuple [.Name x px, .Name y py] kt pt] (.Tuple [a, b] k2 pt2) X.env = pure (some [x, y]) := by rfl) (hiW : i ∉ W := by decide) (hjW : j ∉ W := by decide)
    (hs : swapsWithSole [.Tuple [.Name x px, .Name y py] kt pt] (.Tuple [a, b] k2 pt2) pos.line X.env = pure false := by rfl) :
    SD X fr ns c Wb W W (.Assign [.Tuple [.Name x px, .Name y py] kt pt] (.Tuple [a, b] k2 pt2) pos) (sPar i j A) := sd_par hc hN hi hj hij hx hy ha hw hiW hjW hs
theorem sdp3 (i j l : Nat) {y z : Str} {px py pz pt : Pos} {kt k2 pt2} (hN : X.N.Nodup) (ha : AD X ns c W [a, b, e] A) (hc : X.calm = true := by rfl) (hi : X.N[i]? = some x := by rfl) (hj : X.N[j]? = some y := by rfl) (hl : X.N[l]? = some z := by rfl) (hij : i ≠ j := by decide) (hil : i ≠ l := by decide) (hjl : j ≠ l := by decide)
    (hx : X.env.scope.names.lookup x = some .local := by rfl) (hy : X.env.scope.names.lookup y = some .local := by rfl) (hz : X.env.scope.names.lookup z = some .local := by rfl)
    (hw : swappedStores [.Tuple [.Name x px, .Name y py, .Name z pz] kt pt] (.Tuple [a, b, e] k2 pt2) X.env = pure (some [x, y, z]) := by rfl) (hiW : i ∉ W := by decide) (hjW : j ∉ W := by decide) (hlW : l ∉ W := by decide)
    (hs : swapsWithSole [.Tuple [.Name x px, .Name y py, .Name z pz] kt pt] (.Tuple [a, b, e] k2 pt2) pos.line X.env = pure false := by rfl) :
    SD X fr ns c Wb W W (.Assign [.Tuple [.Name x px, .Name y py, .Name z pz] kt pt] (.Tuple [a, b, e] k2 pt2) pos) (sPar3 i j l A) := sd_par3 hc hN hi hj hl hij hil hjl hx hy hz ha hw hiW hjW hlW hs
/-- y = [..] on one line, y a plain local -/
theorem sd_setLc (i : Nat) {y : Str} {py : Pos} {ifs : List Expr} {scope : Scope} {own : List (Str × Nat)} {ts : List Nat} {g : TgD} {it : DEnv → M (List D)} {t : DEnv → M Bool} {spos : Pos} (hc : X.calm = true) (hN : X.N.Nodup) (hi : ID X ns c W tg iter it) (ok : BlkOk X.N X.env.scope scope own)
    (hg : ∀ (s : Shared) (H : Hp) (C : Addr) (cl : List (Str × Addr)) (fp : List Addr), GD (X.blk s H scope (compEnvC scope cl C X.env) fp) ns c W ts tg g) (ht : ∀ (s : Shared) (H : Hp) (C : Addr) (cl : List (Str × Addr)) (fp : List Addr), TsD (X.blk s H scope (compEnvC scope cl C X.env) fp) ns c W ifs t)
    (he : ∀ (s : Shared) (H : Hp) (C : Addr) (cl : List (Str × Addr)) (fp : List Addr), ED (X.blk s H scope (compEnvC scope cl C X.env) fp) ns c W e f) (hy : X.N[i]? = some y := by rfl) (hyl : X.env.scope.names.lookup y = some .local := by rfl)
    (hsw : swapsWith (.ListComp e [⟨tg, iter, ifs, 0⟩] scope pos) (some (.Name y py)) spos.line X.env = pure true := by exact sw_true rfl rfl rfl (by decide +kernel))
    (hts : ∀ j ∈ ts, j ∈ own.map (·.2) := by decide) (hvW : ∀ i ∈ own.map (·.2), i ∉ W := by decide) (hiW : i ∉ W := by decide) (hs : ∀ x, foldedSetIterable iter X.env x = pure x := by intro _; rfl) :
    SD X fr ns c Wb W W (.Assign [.Name y py] (.ListComp e [⟨tg, iter, ifs, 0⟩] scope pos) spos) (sSet i (dLc it (own.map (·.2)) g t f)) := by
  refine ps_weak (ps_setLc (g := tDG X.K ns c W ts g) (tt := tDT X.K ns c W t) (te := tD X.K ns c W f) hc hN hy hyl hsw hi ok hg ht he hs) fun E σ H q => ?_
  obtain ⟨Hs0, H0, Hs, ρ, n, o, n', R, e, q⟩ := q
  unfold sSet at e
  split at e
  · rename_i d n1 h1
    cases e
    rw [← dLc_lst] at h1
    unfold fLst at h1
    split at h1
    · rename_i ds n2 h2
      cases h1
      refine tLcD hts hvW σ H _ ⟨Hs0, H0, Hs, ρ, n, ds, _, R, h2, fun p vs Hs' H' e1 c1 p0 p1 p2 r1 => ?_⟩
      have ee := e1.adopt p0 p1 p2
      exact q _ _ H' ee.st ((R.step ee c1).store1 hiW (.inl (.lst upd_same (RpAll.same (same_upd' p1) _ _ r1))))
    · cases h1
  · cases e
/-- .. owned from here on -/
theorem sd_ownLc (i : Nat) {y : Str} {py : Pos} {ifs : List Expr} {scope : Scope} {own : List (Str × Nat)} {ts : List Nat} {g : TgD} {it : DEnv → M (List D)} {t : DEnv → M Bool} {spos : Pos} (hc : X.calm = true) (hN : X.N.Nodup) (hi : ID X ns c W tg iter it) (ok : BlkOk X.N X.env.scope scope own)
    (hg : ∀ (s : Shared) (H : Hp) (C : Addr) (cl : List (Str × Addr)) (fp : List Addr), GD (X.blk s H scope (compEnvC scope cl C X.env) fp) ns c W ts tg g) (ht : ∀ (s : Shared) (H : Hp) (C : Addr) (cl : List (Str × Addr)) (fp : List Addr), TsD (X.blk s H scope (compEnvC scope cl C X.env) fp) ns c W ifs t)
    (he : ∀ (s : Shared) (H : Hp) (C : Addr) (cl : List (Str × Addr)) (fp : List Addr), ED (X.blk s H scope (compEnvC scope cl C X.env) fp) ns c W e f) (hy : X.N[i]? = some y := by rfl) (hyl : X.env.scope.names.lookup y = some .local := by rfl)
    (hsw : swapsWith (.ListComp e [⟨tg, iter, ifs, 0⟩] scope pos) (some (.Name y py)) spos.line X.env = pure true := by exact sw_true rfl rfl rfl (by decide +kernel))
    (hts : ∀ j ∈ ts, j ∈ own.map (·.2) := by decide) (hvW : ∀ i ∈ own.map (·.2), i ∉ W := by decide) (hiW : i ∉ W := by decide) (hs : ∀ x, foldedSetIterable iter X.env x = pure x := by intro _; rfl) :
    SD X fr ns c Wb W (i :: W) (.Assign [.Name y py] (.ListComp e [⟨tg, iter, ifs, 0⟩] scope pos) spos) (sSet i (fLst (dLc it (own.map (·.2)) g t f))) := by
  refine ⟨fun pins s σ H E I q => (ps_setLc (g := tDG X.K ns c W ts g) (tt := tDT X.K ns c W t) (te := tD X.K ns c W f) hc hN hy hyl hsw hi ok hg ht he hs).run pins s σ H E I ?_⟩
  have hlen : i < σ.length := by rw [I.len]; exact (List.getElem?_eq_some_iff.mp hy).1
  obtain ⟨Hs0, H0, Hs, ρ, n, o, n', R, e, q⟩ := q
  unfold sSet fLst at e
  split at e
  · rename_i d n1 h1
    cases e
    split at h1
    · rename_i ds n2 h2
      cases h1
      refine tLcD hts hvW σ H _ ⟨Hs0, H0, Hs, ρ, n, ds, _, R, h2, fun p vs Hs' H' e1 c1 p0 p1 p2 r1 => ?_⟩
      obtain ⟨z0, zc⟩ := R.none0 p0
      refine q _ Hs' H' e1.st ((R.step e1 c1).own1 hiW hlen z0 zc p1 p2 r1 fun j hj z => ?_)
      obtain ⟨p', vs', ds', a1, a2, a3, _⟩ := R.own j hj
      rw [a2] at z
      cases z
      rw [p0] at a3
      cases a3
    · cases h1
  · cases e
theorem fd_listOf (hg : Gl X "list") (hm : X.mg "list" = none) (ha : AD X ns c W [a] A) (hv : bootBuiltins "list" = some (.type "list") := by decide +kernel)
    (he : starEach [a] X.env = (false, eval a X.env) :: starEach [] X.env := by rfl) (hpl : (backTo pos (starEach [] X.env)).any (·.1) = false := by rfl) : FD X ns c W (.Call (.Name "list" p) [a] [] pos) (dUnA hListOf A) := by
  refine pe_weak (pe_callTy call_list_of hg hm hv ha (by decide) (by decide) he hpl) fun σ H Q q => ?_
  obtain ⟨Hs0, H0, Hs, ρ, n, z, n', R, e, q⟩ := q
  obtain ⟨ds, h1, h2⟩ := dUnA_some e
  refine ⟨Hs0, H0, Hs, ρ, n, ds, n', R, h1, fun vs Hs1 H1 e1 c1 r1 => ?_⟩
  have R1 := R.step e1 c1
  have fin : ∀ (l : Addr) (xs : List V), H1 l = none → RpAll X.K Hs1 xs z → Q (.ref l) (upd H1 l (.lst xs)) := fun l xs hl rr => by
    have hsp : Hs1 l = none := by
      cases e : Hs1 l with
      | none => rfl
      | some o => rw [R1.sub l o e] at hl; cases hl
    have hp0 : H l = none := by
      cases e : H l with
      | none => rfl
      | some o =>
        by_cases hc : ∀ q, c = some q → l ≠ q.1
        · rw [e1.al l o hc e] at hl; cases hl
        · exact absurd (fun q hq z => by rw [z, c1 q hq] at hl; cases hl) hc
    refine q l xs Hs1 _ ⟨e1.st, fun b o hb h => ?_, fun b o h => ?_, e1.new⟩ (fun x hx => ?_) hp0 hsp upd_same rr
    · rw [upd_ne (ne_of_none (e1.al b o hb h) hl)]; exact e1.al b o hb h
    · rw [upd_ne (ne_of_none (R1.sub b o h) hl)]; exact R1.sub b o h
    · rw [upd_ne (ne_of_none (c1 x hx) hl)]; exact c1 x hx
  unfold hListOf at h2
  split at h2
  · cases h2
    obtain ⟨v, rfl, rv⟩ := pr1 r1
    obtain ⟨a, xs, rfl, t1, t2⟩ := rv.list
    exact ⟨a, xs, rfl, .inl (SqL.of (R1.sub _ _ t1)), fun l hl => fin l xs hl t2⟩
  · cases h2
    obtain ⟨v, rfl, rv⟩ := pr1 r1
    obtain ⟨a, xs, rfl, t1, t2⟩ := rv.tuple
    exact ⟨a, xs, rfl, .inr (Same.seqT R1.sub t1), fun l hl => fin l xs hl t2⟩
  · cases h2
end
end DL
/-! DLk: defs that give new lists; sorted. -/
namespace DL
open PySem PySem.Spec PyProof.Rows L2

/-! ### defs that give new lists -/
def spF (K : PySem.W.Frag) (ns : List Int) (ar : Nat) (m : List D → M D) : Sp := fun vs H Q _ => vs.length = ar ∧ ∃ c Hs ds n xs n', Same Hs H ∧ Cel c n H ∧ (∀ p, c = some p → Hs p.1 = none) ∧ Paired (SRep K ns c Hs) vs ds ∧ m ds n = some (.list xs, n') ∧
  ∀ p us Hs' H', Ext c Hs H Hs' H' → Cel c n' H' → H p = none → Hs' p = none → H' p = some (.lst us) → RpAll K Hs' us xs → Q (.ref p) H'
/-- a def whose every way ends in a return of a list -/
def fnL (N : Nat) (S : SDen) : List D → M D := fun ds n =>
  match S (startD N ds) n with
  | some (.rt (.list xs), n') => some (.list xs, n')
  | _ => none
theorem fnL_list {N : Nat} {S : SDen} {ds : List D} {n n' : Nat} {d : D} (h : fnL N S ds n = some (d, n')) : ∃ xs, d = .list xs := by
  unfold fnL at h
  split at h
  · cases h; exact ⟨_, rfl⟩
  · cases h
theorem fn_F {P : Program} {w : World} {K : PySem.W.Frag} {mg : Str → Option Value} {base : Heap} {x qual : Str} {st : Stmt} {f : Addr} {fd : FuncData} {N ps : List Str} {k : Nat} {S : SDen} {W' : List Nat} (F : Fun K x qual st f fd) (Sc : FnScope N ps (defScope st)) (ns : List Int)
    (body : ∀ (c : Md) (cdv : Value) (A : Around) (outer : List Env) (s : Shared) (H : Hp) (E : XK), Room k (A.deeper (envOfC qual (defScope st) s.heap.objs.size f cdv)) → SSD (cxOf CX0 P w K mg base N qual (defScope st) f cdv A outer s H E).nox ⟨true, fun _ _ _ _ => False⟩ ns c [] [] W' (defBody st) S) :
    FnOk P w K mg base CX0 (k + 1) f fd ps (spF K ns ps.length (fnL N.length S)) := by
  refine F.ok Sc (fun vs H Q E h => h.1) (fun cdv A outer s H vs Q E hr h => ?_)
  obtain ⟨hl, c, Hs, ds, n, d, n', sm, cl, hc, r, e, q⟩ := h
  refine ⟨_, body c cdv A outer s H E hr, ?_⟩
  have hpl : ps.length ≤ N.length := by have := congrArg List.length Sc.pre; rw [List.length_take] at this; omega
  have hdl : ds.length ≤ N.length := by
    have : vs.length = ds.length := Paired.length r
    omega
  unfold fnL at e
  split at e
  · rename_i d1 n1 h1
    cases e
    refine ⟨Hs, H, Hs, _, n, _, _, start_rel hdl sm cl hc r, h1, fun v Hs' H' e1 c1 rr => ?_⟩
    obtain ⟨p, us, ds', rfl, ed, p0, p1, p2, r1⟩ := rr
    cases ed
    exact q p us Hs' H' e1 c1 p0 p1 p2 r1
  · cases e
theorem spF_D {K : PySem.W.Frag} {ns : List Int} {ar : Nat} {m : List D → M D} (hm : ∀ ds n d n', m ds n = some (d, n') → ∃ xs, d = .list xs) {vs : List V} {H : Hp} {Q : VK} {E : XK} (h : spD K ns ar m vs H Q E) : spF K ns ar m vs H Q E := by
  obtain ⟨hl, c, Hs, ds, n, d, n', sm, cl, hc, r, e, q⟩ := h
  obtain ⟨xs, rfl⟩ := hm _ _ _ _ e
  exact ⟨hl, c, Hs, ds, n, xs, n', sm, cl, hc, r, e, fun p us Hs' H' e1 c1 p0 p1 p2 r1 => q _ _ _ (e1.adopt p0 p1 p2) c1 (.inl (.lst upd_same (RpAll.same (same_upd' p1) _ _ r1)))⟩
structure CalF (P : Program) (w : World) (K : PySem.W.Frag) (mg : Str → Option Value) (base : Heap) (k : Nat) (x : Str) (ar : Nat) (m : List Int → List D → M D) : Prop where
  ex : ∃ (f : Addr) (fd : FuncData) (ps : List Str), (∀ ns, FnOk P w K mg base CX0 k f fd ps (spF K ns ar (m ns))) ∧ mg x = some (.ref f) ∧ PySem.W.keepIn K (.ref f) = true ∧ Binds K fd ps []
  ls : ∀ ns ds n d n', m ns ds n = some (d, n') → ∃ xs, d = .list xs
section
variable {X : Cx} {ns : List Int} {c : Md} {W W' Wb : List Nat} {a b e k : Expr} {es : List Expr} {f g : DEnv → M D} {A : DEnv → M (List D)} {pos p : Pos} {x : Str}
theorem tCallF {m : List D → M D} {ar : Nat} {E : XK} (har : ∀ ρ n x n', A ρ n = some (x, n') → x.length = ar) (σ : L2.St) (H : Hp) (Q : VK) (q : tDF X.K ns c W (dCall m A) σ H Q) : tCall (spF X.K ns ar m) [] E (tDA X.K ns c W A) σ H Q := by
  obtain ⟨Hs0, H0, Hs, ρ, n, z, n', R, e, q⟩ := q
  obtain ⟨ds, n1, h1, h2⟩ := dCall_some e
  refine ⟨Hs0, H0, Hs, ρ, n, ds, n1, R, h1, fun vs Hs1 H1 e1 c1 r1 => ?_⟩
  have R1 := R.step e1 c1
  show spF X.K ns ar m (vs ++ []) H1 Q E
  rw [List.append_nil]
  refine ⟨by rw [(Paired.length r1 : _ = _)]; exact har _ _ _ _ h1, c, Hs1, ds, n1, z, n', R1.sub, c1, R1.hc, r1, h2, fun p us Hs2 H2 e2 c2 p0 p1 p2 r2 => q p us Hs2 H2 (e1.trans c1 e2) c2 ?_ p1 p2 r2⟩
  cases e : H p with
  | none => rfl
  | some o =>
    by_cases hc : ∀ q, c = some q → p ≠ q.1
    · rw [e1.al p o hc e] at p0; cases p0
    · exact absurd (fun q hq z => by rw [z, c1 q hq] at p0; cases p0) hc
theorem fd_calF {kk ar : Nat} {m : List Int → List D → M D} {fs : List (DEnv → M D)} (C : CalF X.prog X.w X.K X.mg X.base kk x ar m) (hr : Room kk X.A) (hg : Gl X x) (ha : AD X ns c W (e :: es) (dAs fs)) (har : fs.length = ar := by rfl) (hdb : (x == ("__debug__" : Str)) = false := by decide)
    (he : starEach (e :: es) X.env = (false, eval e X.env) :: starEach es X.env := by rfl) (hpl : (backTo pos (starEach es X.env)).any (·.1) = false := by rfl) : FD X ns c W (.Call (.Name x p) (e :: es) [] pos) (dCall (m ns) (dAs fs)) := by
  obtain ⟨f, fd, ps, F, hm, hk, hb⟩ := C.ex
  exact pe_weak (pe_call (F ns) hr hg hm hk hb .nil (E := E0) pass0 ha hdb he hpl) fun σ H Q q => tCallF (fun _ _ _ _ h => (dAs_len h).trans har) σ H Q q
theorem dCall_lst {m : List Int → List D → M D} (h : ∀ ns ds n d n', m ns ds n = some (d, n') → ∃ xs, d = .list xs) : fLst (dCall (m ns) A) = dCall (m ns) A := by
  funext ρ n
  unfold fLst
  cases e : dCall (m ns) A ρ n with
  | none => rfl
  | some q =>
    obtain ⟨d, n'⟩ := q
    obtain ⟨y, n1, _, h2⟩ := dCall_some e
    obtain ⟨xs, rfl⟩ := h _ _ _ _ _ h2
    rfl
theorem ed_calF {kk ar : Nat} {m : List Int → List D → M D} {fs : List (DEnv → M D)} (C : CalF X.prog X.w X.K X.mg X.base kk x ar m) (hr : Room kk X.A) (hg : Gl X x) (ha : AD X ns c W (e :: es) (dAs fs)) (har : fs.length = ar := by rfl) (hdb : (x == ("__debug__" : Str)) = false := by decide)
    (he : starEach (e :: es) X.env = (false, eval e X.env) :: starEach es X.env := by rfl) (hpl : (backTo pos (starEach es X.env)).any (·.1) = false := by rfl) : ED X ns c W (.Call (.Name x p) (e :: es) [] pos) (dCall (m ns) (dAs fs)) := by
  have := ed_fresh (fd_calF (p := p) (pos := pos) C hr hg ha har hdb he hpl)
  rw [dCall_lst C.ls] at this
  exact this

/-! ### sorted -/
def likeAll (ds : List D) : Bool := ds.all fun d => ds.all fun d' => PySem.W.alike d d'
def isTupN : D → Bool
  | .tuple (_ :: _) => true
  | _ => false
def isPlainI : D → Bool
  | .none => false
  | .tuple _ => false
  | _ => true
/-- a list that sorted takes -/
def sortOK (ds : List D) : Bool := likeAll ds && (ds.all isTupN || ds.all isPlainI) && ds.all (fun d => decide (d.depth ≤ 32)) && decide (ds.length ≤ LIM)
def hSorted : List D → Option D
  | [.list ds] => if sortOK ds = true then some (.list (ds.mergeSort (PySem.W.dataLe false id))) else none
  | _ => none
def rSortD (K : PySem.W.Frag) : List V → Hp → VK → Prop := fun vs H Q => ∃ (a : Addr) (xs : List V) (ds : List D) (Hs : Hp), vs = [V.ref a] ∧ SqL K H a xs ∧ Same Hs H ∧ RpAll K Hs xs ds ∧ sortOK ds = true ∧
  ∀ (ws : List V) (p : Addr), RpAll K Hs ws (ds.mergeSort (PySem.W.dataLe false id)) → H p = none → Q (.ref p) (upd H p (.lst ws))
theorem eachR {K : PySem.W.Frag} {H : Hp} : ∀ {xs : List V} {us : List Value} {ds : List D}, RpAll K H xs ds → Vals xs us → PySem.W.EachIs (fun u d => ∃ w, RelV w u ∧ Rp K H w d) us ds
  | [], us, ds, r, v => by cases r; cases v; exact .nil
  | x :: xs, us, ds, r, v => by
    cases r with
    | cons r1 r2 => cases v with
      | cons v1 v2 => exact .cons ⟨x, v1, r1⟩ (eachR r2 v2)
theorem eachW {K : PySem.W.Frag} {H : Hp} : ∀ {us : List Value} {ds : List D}, PySem.W.EachIs (fun u d => ∃ w, RelV w u ∧ Rp K H w d) us ds → ∃ ws, Vals ws us ∧ RpAll K H ws ds
  | _, _, .nil => ⟨[], .nil, .nil⟩
  | _, _, .cons h t => by
    obtain ⟨w, h1, h2⟩ := h
    obtain ⟨ws, h3, h4⟩ := eachW t
    exact ⟨w :: ws, .cons h1 h3, .cons h2 h4⟩
theorem cr_sortD (hu : X.A.units + 64 < cLine) : CallR X (.builtin "sorted") (rSortD X.K) := by
  intro pins s σ H vs us Q I r h
  obtain ⟨a, xs, ds, Hs, rfl, hs, sm, rp, ok, q⟩ := h
  obtain ⟨its, rv, hl, _⟩ := I.list hs
  rw [Vals.ref1 r]
  unfold sortOK at ok
  simp only [Bool.and_eq_true, decide_eq_true_eq] at ok
  obtain ⟨⟨⟨o1, o2⟩, o3⟩, o4⟩ := ok
  have e := eachR rp rv
  have er : PySem.W.EachIs (fun v b => ∃ as, Reads s.heap v (id b) as) its ds := e.mono fun u d ⟨w, h1, h2⟩ => Dp.reads I d w u (Rp.dp d w (Rp.same sm d w h2)) h1
  have hal : PySem.W.AllAlike (ds.map id) := by
    rw [List.map_id]
    intro d hd d' hd'
    exact List.all_eq_true.mp (List.all_eq_true.mp o1 d hd) d' hd'
  have hk : PySem.W.Sortable (ds.map id) := by
    rw [List.map_id]
    rw [Bool.or_eq_true] at o2
    rcases o2 with o2 | o2
    · refine .inl fun d hd => ?_
      have := List.all_eq_true.mp o2 d hd
      unfold isTupN at this
      split at this
      · exact ⟨_, _, rfl⟩
      · cases this
    · refine .inr fun d hd => ?_
      have := List.all_eq_true.mp o2 d hd
      unfold isPlainI at this
      split at this
      · cases this
      · cases this
      · rename_i h1 h2
        exact ⟨h1, h2⟩
  refine PySem.W.sorted_data hl.isList e er hal hk (by rw [LIM_eq]; exact o4) (fun b hb => ?_) fun out h1 h2 => ?_
  · have := decide_eq_true_eq.mp (List.all_eq_true.mp o3 b hb)
    show X.A.units + 2 + b.depth < cLine
    omega
  · obtain ⟨ws, w1, w2⟩ := eachW h2
    obtain ⟨ep, he'⟩ := PyProof.Rows.sortedAll_at s.heap its out.toArray
    have hlen : ws.length ≤ sizeLine := by
      rw [w2.length, List.length_mergeSort]
      rw [LIM_eq]; exact o4
    exact ⟨.ref _, upd H (s.heap.objs.size + 1) (.lst ws), I.laid (t' := s.toks) (fun _ _ => PyProof.Rows.sortedAll_old) (Nat.le_succ _) ⟨hlen, out, ep, w1, he'⟩, rfl, q ws _ w2 (I.hok.fresh (Nat.le_succ _))⟩
theorem Rel.newL {K : PySem.W.Frag} {Hs0 H0 Hs H Hs1 H1 : Hp} {σ : L2.St} {ρ : DEnv} {n' : Nat} {Q : VK} {z : List D} {l : Addr} {xs : List V} (R1 : Rel K ns c W Hs0 H0 Hs1 H1 σ ρ n') (e1 : Ext c Hs H Hs1 H1) (c1 : Cel c n' H1) (q : ∀ p vs Hs' H', Ext c Hs H Hs' H' → Cel c n' H' → H p = none → Hs' p = none → H' p = some (.lst vs) → RpAll K Hs' vs z → Q (.ref p) H')
    (hl : H1 l = none) (rr : RpAll K Hs1 xs z) : Q (.ref l) (upd H1 l (.lst xs)) := by
  have hsp : Hs1 l = none := by
    cases e : Hs1 l with
    | none => rfl
    | some o => rw [R1.sub l o e] at hl; cases hl
  have hp0 : H l = none := by
    cases e : H l with
    | none => rfl
    | some o =>
      by_cases hc : ∀ q, c = some q → l ≠ q.1
      · rw [e1.al l o hc e] at hl; cases hl
      · exact absurd (fun q hq z => by rw [z, c1 q hq] at hl; cases hl) hc
  refine q l xs Hs1 _ ⟨e1.st, fun b o hb h => ?_, fun b o h => ?_, e1.new⟩ (fun x hx => ?_) hp0 hsp upd_same rr
  · rw [upd_ne (ne_of_none (e1.al b o hb h) hl)]; exact e1.al b o hb h
  · rw [upd_ne (ne_of_none (R1.sub b o h) hl)]; exact R1.sub b o h
  · rw [upd_ne (ne_of_none (c1 x hx) hl)]; exact c1 x hx
theorem fd_sorted (hu : X.A.units + 64 < cLine) (hg : Gl X "sorted") (hm : X.mg "sorted" = none) (ha : AD X ns c W [a] A) (hv : bootBuiltins "sorted" = some (.builtin "sorted") := by decide +kernel)
    (he : starEach [a] X.env = (false, eval a X.env) :: starEach [] X.env := by rfl) (hpl : (backTo pos (starEach [] X.env)).any (·.1) = false := by rfl) : FD X ns c W (.Call (.Name "sorted" p) [a] [] pos) (dUnA hSorted A) := by
  refine pe_weak (pe_callB (cr_sortD hu) hg hm hv ha (by decide) (by decide) he hpl) fun σ H Q q => ?_
  obtain ⟨Hs0, H0, Hs, ρ, n, z, n', R, e, q⟩ := q
  obtain ⟨ds, h1, h2⟩ := dUnA_some e
  refine ⟨Hs0, H0, Hs, ρ, n, ds, n', R, h1, fun vs Hs1 H1 e1 c1 r1 => ?_⟩
  have R1 := R.step e1 c1
  unfold hSorted at h2
  split at h2
  · obtain ⟨ok, h3⟩ := Option.some_of_if h2
    cases h3
    obtain ⟨v, rfl, rv⟩ := pr1 r1
    obtain ⟨a, xs, rfl, t1, t2⟩ := rv.list
    exact ⟨a, xs, _, Hs1, rfl, SqL.of (R1.sub _ _ t1), R1.sub, t2, ok, fun ws l rw' hl => Rel.newL R1 e1 c1 q hl rw'⟩
  · cases h2
theorem hSorted_lst : fLst (dUnA hSorted A) = dUnA hSorted A := by
  funext ρ n
  unfold fLst
  cases e : dUnA hSorted A ρ n with
  | none => rfl
  | some q =>
    obtain ⟨d, n'⟩ := q
    obtain ⟨y, _, h2⟩ := dUnA_some e
    unfold hSorted at h2
    split at h2
    · obtain ⟨ok, h3⟩ := Option.some_of_if h2
      cases h3
      rfl
    · cases h2
theorem ed_sorted (hu : X.A.units + 64 < cLine) (hg : Gl X "sorted") (hm : X.mg "sorted" = none) (ha : AD X ns c W [a] A) (hv : bootBuiltins "sorted" = some (.builtin "sorted") := by decide +kernel)
    (he : starEach [a] X.env = (false, eval a X.env) :: starEach [] X.env := by rfl) (hpl : (backTo pos (starEach [] X.env)).any (·.1) = false := by rfl) : ED X ns c W (.Call (.Name "sorted" p) [a] [] pos) (dUnA hSorted A) := by
  have := ed_fresh (fd_sorted (p := p) (pos := pos) hu hg hm ha hv he hpl)
  rw [hSorted_lst] at this
  exact this

/-! ### lists that are owned, looked at by a test -/
theorem td_bor {t : DEnv → M Bool} {W1 : List Nat} (hW : ∀ i ∈ W1, i ∈ W) (h : TD X ns c W1 e t) : TD X ns c W e t := by
  refine pt_weak h fun σ H Q q => ?_
  obtain ⟨Hs0, H0, Hs, ρ, n, b, n', R, e, q⟩ := q
  refine ⟨Hs0, H0, _, ρ, n, b, n', R.frz W1 hW, e, fun Hs' H' e1 c1 => ?_⟩
  exact q Hs H' ⟨Same.rfl', e1.al, fun p o h => e1.al p o (fun q hq z => by rw [z, R.hc q hq] at h; cases h) (R.sub p o h), fun p h => .inl h⟩ c1
end

/-! ### an item of an own list is set -/
def setI (ds : List D) (k : Int) (d : D) : Option (List D) := if noDict d = true then match ixN ds.length k with
  | some j => some (ds.set j d)
  | none => none
  else none
def sPut (i : Nat) (g f : DEnv → M D) : SDen := fun ρ n =>
  match f ρ n with
  | some (d, n1) => match g ρ n1 with
    | some (.int k, n2) => match ρ[i]? with
      | some (some (.list ds)) => match setI ds k d with
        | some ds' => some (.nx (ρ.set i (some (.list ds'))), n2)
        | none => none
      | _ => none
    | _ => none
  | none => none
theorem sPut_some {i : Nat} {f g : DEnv → M D} {ρ : DEnv} {n n' : Nat} {o : Out} (e : sPut i g f ρ n = some (o, n')) : ∃ d n1 k ds ds', f ρ n = some (d, n1) ∧ g ρ n1 = some (.int k, n') ∧ ρ[i]? = some (some (.list ds)) ∧ setI ds k d = some ds' ∧ o = .nx (ρ.set i (some (.list ds'))) := by
  unfold sPut at e
  split at e
  · rename_i d n1 h1
    split at e
    · rename_i k n2 h2
      split at e
      · rename_i ds h3
        split at e
        · rename_i ds' h4
          cases e
          exact ⟨d, n1, k, ds, ds', h1, h2, h3, h4, rfl⟩
        · cases e
      · cases e
    · cases e
  · cases e
section
variable {X : Cx} {fr : FR} {ns : List Int} {c : Md} {W W' Wb : List Nat} {a b e k : Expr} {es : List Expr} {f g : DEnv → M D} {A : DEnv → M (List D)} {pos p : Pos} {x : Str}
theorem sd_put {i : Nat} {x : Str} {p1 tpos spos : Pos} (hi : X.N[i]? = some x) (hv : Vis X.env.scope x) (he : ED X ns c W e f) (hk : ED X ns c W k g) (hiW : i ∈ W := by decide) (hd : (x == ("__debug__" : Str)) = false := by decide) (hcd : (x == ("__classdict__" : Str)) = false := by decide)
    (ha : ∀ v, assign (.Subscript (.Name x p1) k tpos) X.env v = (do
      let ov ← holding [v] (eval (.Name x p1) X.env)
      let iv ← holding [v, ov] (eval k X.env)
      standAt tpos
      holding [v, ov, iv] (setItem ov iv v)
      release [v, ov, iv] []) := by intro _; rfl) (hs : swapsWithSole [.Subscript (.Name x p1) k tpos] e spos.line X.env = pure false := by rfl) (hw : swappedStores [.Subscript (.Name x p1) k tpos] e X.env = pure none := by rfl)
    (h1 : (assignEach [.Subscript (.Name x p1) k tpos] X.env).map (·.2) = [assign (.Subscript (.Name x p1) k tpos) X.env] := by rfl) : SD X fr ns c Wb W W (.Assign [.Subscript (.Name x p1) k tpos] e spos) (sPut i g f) := by
  refine ps_weak (ps_asg he (pg_sub (pe_var hi hv hd hcd) hk set_list ha) hs hw h1) fun E σ H q => ?_
  obtain ⟨Hs0, H0, Hs, ρ, n, o, n', R, e, q⟩ := q
  obtain ⟨d, n1, kk, ds, ds', h1, h2, h3, h4, rfl⟩ := sPut_some e
  refine ⟨Hs0, H0, Hs, ρ, n, d, n1, R, h1, fun v Hs1 H1 e1 c1 r1 => ?_⟩
  have R1 := R.step e1 c1
  obtain ⟨p, vs, ds0, a1, a2, a3, a4, a5, a6, a7⟩ := R1.ownL hiW h3
  rw [h3] at a1
  cases a1
  refine ⟨.ref p, a2, Hs0, H0, Hs1, ρ, n1, .int kk, n', R1, h2, fun w Hs2 H2 e2 c2 r2 => ?_⟩
  have R2 := R1.step e2 c2
  obtain ⟨p', vs', ds1, b1, b2, b3, b4, b5, b6, b7⟩ := R2.ownL hiW h3
  rw [a2] at b2
  cases b2
  rw [h3] at b1
  cases b1
  unfold setI at h4
  split at h4
  · rename_i hnd
    split at h4
    · rename_i j hj
      cases h4
      have rw2 : w = .int kk := r2.int
      refine ⟨p, vs', kk, j, rfl, rw2, b3, by rw [b4.length]; exact hj, ?_⟩
      exact q _ Hs2 _ (Same.trans' e1.st e2.st) (R2.mut (vs := vs') hiW a2 (RpAll.set (Rp.same e2.st _ _ (r1.rp (noDict_of hnd))) j b4))
    · cases h4
  · cases h4

/-! ### built-in functions of a module, under a name of the program's own -/
theorem ed_callBf {id : String} {r : List V → Hp → VK → Prop} {h : List D → Option D} (hc : CallR X (.builtin id) r) (hh : CB X.K r h) (hg : Gl X x) (hm : X.mg x = some (.builtin id)) (ha : AD X ns c W (e :: es) A) (hdb : (x == ("__debug__" : Str)) = false := by decide)
    (he : starEach (e :: es) X.env = (false, eval e X.env) :: starEach es X.env := by rfl) (hpl : (backTo pos (starEach es X.env)).any (·.1) = false := by rfl) : ED X ns c W (.Call (.Name x p) (e :: es) [] pos) (dUnA h A) :=
  pe_weak (pe_callBfun hc hg hm ha hdb he hpl) (tCBD hh)
def hGcd : List D → Option D
  | [.int a, .int b] => some (.int (Nat.gcd a.natAbs b.natAbs : Nat))
  | _ => none
theorem cb_gcd {K : PySem.W.Frag} : CB K rGcd hGcd := by
  intro ns c Hs H vs ds z Q s r h q
  unfold hGcd at h
  split at h
  · cases h
    obtain ⟨v, w, rfl, r1, r2⟩ := pr2 r
    rw [r1.int, r2.int]
    exact ⟨_, _, rfl, q _ Hs H (ExtP.refl s) (.int _)⟩
  · cases h

/-! ### new lists by * and + -/
def hRepL : D → D → Option D
  | .list xs, .int k => if -(2 ^ 63) ≤ k ∧ k < 2 ^ 63 ∧ xs.length * k.toNat ≤ LIM then some (.list (List.replicate k.toNat xs).flatten) else none
  | _, _ => none
def hCatL : D → D → Option D
  | .list xs, .list ys => if xs.length + ys.length ≤ LIM then some (.list (xs ++ ys)) else none
  | _, _ => none
theorem fd_op {op : Operator} {r : R2} {h : D → D → Option D} (ho : OpR X (binaryOp op) r) (hr : ∀ ns c Hs H x y d e z Q, Same Hs H → SRep X.K ns c Hs x d → SRep X.K ns c Hs y e → h d e = some (.list z) → (∀ p us, H p = none → RpAll X.K Hs us z → Q (.ref p) (upd H p (.lst us))) → r x y H Q)
    (ha : ED X ns c W a f) (hb : ED X ns c W b g) : FD X ns c W (.BinOp a op b pos) (dBin h f g) := by
  refine pe_weak (pe_op ho ha hb) fun σ H Q q => ?_
  obtain ⟨Hs0, H0, Hs, ρ, n, zs, n', R, e, q⟩ := q
  obtain ⟨x, n1, y, h1, h2, h3⟩ := dBin_some e
  refine ⟨Hs0, H0, Hs, ρ, n, x, n1, R, h1, fun v Hs1 H1 e1 c1 r1 => ?_⟩
  have R1 := R.step e1 c1
  refine ⟨Hs0, H0, Hs1, ρ, n1, y, n', R1, h2, fun u Hs2 H2 e2 c2 r2 => ?_⟩
  have R2 := R1.step e2 c2
  exact hr ns c Hs2 H2 v u x y zs Q R2.sub (r1.same e2.st) r2 h3 fun p us hp rr => Rel.newL R2 (e1.trans c1 e2) c2 q hp rr
theorem fd_rep (ha : ED X ns c W a f) (hb : ED X ns c W b g) : FD X ns c W (.BinOp a .Mult b pos) (dBin hRepL f g) := by
  refine fd_op op_rep (fun ns c Hs H x y d e z Q s rx ry hz q => ?_) ha hb
  unfold hRepL at hz
  split at hz
  · obtain ⟨p, hz⟩ := Option.some_of_if hz
    cases hz
    obtain ⟨a, xs, rfl, h1, r1⟩ := rx.list
    rw [ry.int]
    exact ⟨a, _, xs, rfl, rfl, s _ _ h1, p.1, p.2.1, by rw [r1.length, LIM_eq]; exact p.2.2, fun t ht => q t _ ht (r1.rep _)⟩
  · cases hz
theorem fd_cat (ha : ED X ns c W a f) (hb : ED X ns c W b g) : FD X ns c W (.BinOp a .Add b pos) (dBin hCatL f g) := by
  refine fd_op op_cat (fun ns c Hs H x y d e z Q s rx ry hz q => ?_) ha hb
  unfold hCatL at hz
  split at hz
  · obtain ⟨p, hz⟩ := Option.some_of_if hz
    cases hz
    obtain ⟨a, xs, rfl, h1, r1⟩ := rx.list
    obtain ⟨b, ys, rfl, h2, r2⟩ := ry.list
    exact ⟨a, b, xs, ys, rfl, rfl, s _ _ h1, s _ _ h2, by rw [r1.length, r2.length, LIM_eq]; exact p, fun t ht => q t _ ht (r1.append r2)⟩
  · cases hz

/-! ### pairs of new lists -/
def sParO (i j : Nat) (f g : DEnv → M D) : SDen := fun ρ n =>
  match f ρ n with
  | some (.list ds, n1) => match g ρ n1 with
    | some (.list es, n2) => some (.nx ((ρ.set i (some (.list ds))).set j (some (.list es))), n2)
    | _ => none
  | _ => none
def sParOP (i j : Nat) (f g : DEnv → M D) : SDen := fun ρ n =>
  match f ρ n with
  | some (.list ds, n1) => match g ρ n1 with
    | some (e, n2) => some (.nx ((ρ.set i (some (.list ds))).set j (some e)), n2)
    | _ => none
  | _ => none
theorem Rel.freC {K : PySem.W.Frag} {Hs0 H0 Hs H : Hp} {σ : L2.St} {ρ : DEnv} {n : Nat} (R : Rel K ns c W Hs0 H0 Hs H σ ρ n) {p : Addr} (h : H p = none) : ∀ q, c = some q → p ≠ q.1 := fun q hq z => by rw [z, R.cel q hq] at h; cases h
theorem Rel.notOwn {K : PySem.W.Frag} {Hs0 H0 Hs H : Hp} {σ : L2.St} {ρ : DEnv} {n : Nat} (R : Rel K ns c W Hs0 H0 Hs H σ ρ n) {p : Addr} (h : H p = none) : ∀ j ∈ W, σ[j]? ≠ some (some (.ref p)) := fun j hj z => by
  obtain ⟨p', vs', ds', a1, a2, a3, _⟩ := R.own j hj
  rw [a2] at z
  cases z
  rw [h] at a3
  cases a3
theorem Rel.set_plain {K : PySem.W.Frag} {Hs0 H0 Hs H : Hp} {σ : L2.St} {ρ : DEnv} {n i : Nat} {v : V} {d : D} (hi : i ∉ W) (R : Rel K ns c W Hs0 H0 Hs H σ ρ n) (r : SRep K ns c Hs v d) : Rel K ns c W Hs0 H0 Hs H (σ.set i (some v)) (ρ.set i (some d)) n := R.store1 hi r
variable {y : Str} {px py pt pt2 spos : Pos} {kt k2 : Nat}
theorem sd_parO (i j : Nat) (hN : X.N.Nodup) (ha : FD X ns c W a f) (hb : FD X ns c W b g) (hc : X.calm = true := by rfl) (hi : X.N[i]? = some x := by rfl) (hj : X.N[j]? = some y := by rfl) (hij : i ≠ j := by decide)
    (hx : X.env.scope.names.lookup x = some .local := by rfl) (hy : X.env.scope.names.lookup y = some .local := by rfl)
    (hw : swappedStores [.Tuple [.Name x px, .Name y py] kt pt] (.Tuple [a, b] k2 pt2) X.env = pure (some [x, y]) := by rfl) (hiW : i ∉ W := by decide) (hjW : j ∉ W := by decide)
    (hs : swapsWithSole [.Tuple [.Name x px, .Name y py] kt pt] (.Tuple [a, b] k2 pt2) spos.line X.env = pure false := by rfl)
    (he1 : starEach [a, b] X.env = (false, eval a X.env) :: starEach [b] X.env := by rfl) (he2 : starEach [b] X.env = (false, eval b X.env) :: starEach [] X.env := by rfl) :
    SD X fr ns c Wb W (j :: i :: W) (.Assign [.Tuple [.Name x px, .Name y py] kt pt] (.Tuple [a, b] k2 pt2) spos) (sParO i j f g) := by
  refine ⟨fun pins s σ H E I q => (ps_par hc hN hi hj hij hx hy (pa_cons ha (pa_cons hb pa_nil he2) he1) hw hs).run pins s σ H E I ?_⟩
  have hli : i < σ.length := by rw [I.len]; exact (List.getElem?_eq_some_iff.mp hi).1
  have hlj : j < σ.length := by rw [I.len]; exact (List.getElem?_eq_some_iff.mp hj).1
  obtain ⟨Hs0, H0, Hs, ρ, n, o, n', R, e, q⟩ := q
  unfold sParO at e
  split at e
  · rename_i ds n1 h1
    split at e
    · rename_i es n2 h2
      cases e
      refine ⟨Hs0, H0, Hs, ρ, n, ds, n1, R, h1, fun p vs Hs1 H1 e1 c1 p0 p1 p2 r1 => ?_⟩
      have R1 := R.step e1 c1
      refine ⟨Hs0, H0, Hs1, ρ, n1, es, _, R1, h2, fun p' vs' Hs2 H2 e2 c2 q0 q1 q2 r2 => ?_⟩
      have R2 := R1.step e2 c2
      have hp0 := R.none0 p0
      have hp2 : H2 p = some (.lst vs) := e2.al p _ hp0.2 p2
      have hs2 : Hs2 p = none := e2.keep0 p1 (by rw [p2]; exact fun z => nomatch z)
      have hne : p ≠ p' := fun z => by rw [z, q0] at p2; cases p2
      have hq0 := R1.none0 q0
      have R3 := R2.own1 hiW hli hp0.1 hp0.2 hs2 hp2 (RpAll.same e2.st _ _ r1) (R.notOwn p0)
      have R4 := R3.own1 (i := j) (fun z => by
        rcases List.mem_cons.mp z with z | z
        · exact hij z.symm
        · exact hjW z) (by rw [List.length_set]; exact hlj) hq0.1 hq0.2 q1 q2 r2 fun l hl => by
        rcases List.mem_cons.mp hl with rfl | hl
        · rw [List.getElem?_set_self hli]
          intro z
          cases z
          exact hne rfl
        · rw [List.getElem?_set_ne fun z : i = l => hiW (z ▸ hl)]
          exact R1.notOwn q0 l hl
      exact ⟨_, _, rfl, q _ Hs2 H2 (Same.trans' e1.st e2.st) R4⟩
    · cases e
  · cases e
theorem sd_parOP (i j : Nat) (hN : X.N.Nodup) (ha : FD X ns c W a f) (hb : ED X ns c W b g) (hc : X.calm = true := by rfl) (hi : X.N[i]? = some x := by rfl) (hj : X.N[j]? = some y := by rfl) (hij : i ≠ j := by decide)
    (hx : X.env.scope.names.lookup x = some .local := by rfl) (hy : X.env.scope.names.lookup y = some .local := by rfl)
    (hw : swappedStores [.Tuple [.Name x px, .Name y py] kt pt] (.Tuple [a, b] k2 pt2) X.env = pure (some [x, y]) := by rfl) (hiW : i ∉ W := by decide) (hjW : j ∉ W := by decide)
    (hs : swapsWithSole [.Tuple [.Name x px, .Name y py] kt pt] (.Tuple [a, b] k2 pt2) spos.line X.env = pure false := by rfl)
    (he1 : starEach [a, b] X.env = (false, eval a X.env) :: starEach [b] X.env := by rfl) (he2 : starEach [b] X.env = (false, eval b X.env) :: starEach [] X.env := by rfl) :
    SD X fr ns c Wb W (i :: W) (.Assign [.Tuple [.Name x px, .Name y py] kt pt] (.Tuple [a, b] k2 pt2) spos) (sParOP i j f g) := by
  refine ⟨fun pins s σ H E I q => (ps_par hc hN hi hj hij hx hy (pa_cons ha (pa_cons hb pa_nil he2) he1) hw hs).run pins s σ H E I ?_⟩
  have hli : i < σ.length := by rw [I.len]; exact (List.getElem?_eq_some_iff.mp hi).1
  obtain ⟨Hs0, H0, Hs, ρ, n, o, n', R, e, q⟩ := q
  unfold sParOP at e
  split at e
  · rename_i ds n1 h1
    split at e
    · rename_i es n2 h2
      cases e
      refine ⟨Hs0, H0, Hs, ρ, n, ds, n1, R, h1, fun p vs Hs1 H1 e1 c1 p0 p1 p2 r1 => ?_⟩
      have R1 := R.step e1 c1
      refine ⟨Hs0, H0, Hs1, ρ, n1, es, _, R1, h2, fun v Hs2 H2 e2 c2 r2 => ?_⟩
      have R2 := R1.step e2 c2
      have hp0 := R.none0 p0
      have hp2 : H2 p = some (.lst vs) := e2.al p _ hp0.2 p2
      have hs2 : Hs2 p = none := e2.keep0 p1 (by rw [p2]; exact fun z => nomatch z)
      have R3 := R2.own1 hiW hli hp0.1 hp0.2 hs2 hp2 (RpAll.same e2.st _ _ r1) (R.notOwn p0)
      have R4 := R3.set_plain (i := j) (fun z => by
        rcases List.mem_cons.mp z with z | z
        · exact hij z.symm
        · exact hjW z) r2
      exact ⟨_, _, rfl, q _ Hs2 H2 (Same.trans' e1.st e2.st) R4⟩
    · cases e
  · cases e
end
end DL
/-! DLm: math.lcm of three. -/
namespace DL
open PySem PySem.Spec PyProof.Rows L2 PySem.Calls PySem.W
def lcm3 (a b c : Int) : Nat := ((Nat.lcm 1 a.natAbs).lcm b.natAbs).lcm c.natAbs
def lcmOK (a b c : Int) : Prop := (max 1 a.natAbs).log2 ≤ 13000 ∧ (max a.natAbs b.natAbs).log2 ≤ 13000 ∧ (max ((Nat.lcm 1 a.natAbs).lcm b.natAbs) c.natAbs).log2 ≤ 13000 ∧ (lcm3 a b c : Int).natAbs.log2 < bitsLine
instance (a b c : Int) : Decidable (lcmOK a b c) := by unfold lcmOK; infer_instance
theorem args_lcm3 (a b c : Value) : argsOk "math.lcm" ⟨[a, b, c], []⟩ := by unfold argsOk; kernel_rfl
theorem run_lcm3 (a : Int) (t : Tok) (b : Int) (u : Tok) (c : Int) (v : Tok) (hc0 : ¬(max 1 a.natAbs).log2 / 30 + 1 > 450) (hc1 : ¬(max ((Nat.lcm 1 a.natAbs)) b.natAbs).log2 / 30 + 1 > 450) (hc2 : ¬(max ((Nat.lcm 1 a.natAbs).lcm b.natAbs) c.natAbs).log2 / 30 + 1 > 450) (hsz : (((lcm3 a b c : Nat) : Int)).natAbs.log2 < bitsLine) :
    Gives (Builtin.«math.lcm» ⟨[.int a t, .int b u, .int c v], []⟩) (.int ((lcm3 a b c : Nat) : Int)) := by
  unfold lcm3 at hsz ⊢
  exact .of_wp fun M A E s Q h => by
    obtain ⟨hp, g, d, tk, os⟩ := s
    wp_walk
    (try (simp only [if_neg hc1]; wp_walk))
    (try (simp only [if_neg hc2]; wp_walk))
    (try (refine wpAny_ite_false (decide_eq_false (Nat.not_le.mpr hsz)) ?_; wp_walk))
    exact ⟨_, rfl, h⟩
def rLcm3 : List V → Hp → VK → Prop := fun vs H Q => ∃ a b c : Int, vs = [.int a, .int b, .int c] ∧ lcmOK a b c ∧ Q (.int (lcm3 a b c : Nat)) H
theorem Vals.int3 {a b c : Int} {us : List Value} (r : Vals [.int a, .int b, .int c] us) : ∃ t u v, us = [.int a t, .int b u, .int c v] := by
  cases r with
  | cons r1 t => cases t with
    | cons r2 t => cases t with
      | cons r3 t =>
        cases t
        obtain ⟨t1, rfl⟩ := r1
        obtain ⟨t2, rfl⟩ := r2
        obtain ⟨t3, rfl⟩ := r3
        exact ⟨_, _, _, rfl⟩
theorem cr_lcm3 {X : Cx} : CallR X (.builtin "math.lcm") rLcm3 := by
  intro pins s σ H vs us Q I r h
  obtain ⟨a, b, c, rfl, ok, q⟩ := h
  obtain ⟨t, u, v, rfl⟩ := Vals.int3 r
  obtain ⟨o1, o2, o3, o4⟩ := ok
  have e1 : Nat.lcm 1 a.natAbs = a.natAbs := Nat.lcm_one_left _
  exact call_function_meets MGF.kind_lcm MGF.plain_lcm MGF.entry_lcm (args_lcm3 _ _ _) (run_lcm3 a t b u c v (by omega) (by rw [e1]; omega) (by omega) o4).meets ⟨.int _, H, I.tok _, ⟨_, rfl⟩, q⟩
def hLcm3 : List D → Option D
  | [.int a, .int b, .int c] => if lcmOK a b c then some (.int (lcm3 a b c : Nat)) else none
  | _ => none
theorem cb_lcm3 {K : PySem.W.Frag} : CB K rLcm3 hLcm3 := by
  intro ns c Hs H vs ds z Q s r h q
  unfold hLcm3 at h
  split at h
  · obtain ⟨ok, rfl⟩ := Option.some_of_if h
    obtain ⟨v, w, u, rfl, r1, r2, r3⟩ := pr3 r
    rw [r1.int, r2.int, r3.int]
    exact ⟨_, _, _, rfl, ok, q _ Hs H (ExtP.refl s) (.int _)⟩
  · cases h
/-! ### f.append(l.pop(e)), f and l lists of one's own -/
def tDN (K : PySem.W.Frag) (ns : List Int) (c : Md) (W : List Nat) (f : DEnv → M D) : TE := fun σ H Q => ∃ Hs0 H0 Hs ρ n k n', Rel K ns c W Hs0 H0 Hs H σ ρ n ∧ f ρ n = some (.int k, n') ∧
  ∀ H', Ext c Hs H Hs H' → Cel c n' H' → Q (.int k) H'
section
variable {X : Cx} {fr : FR} {ns : List Int} {c : Md} {W W1 W' Wb : List Nat} {a b e k : Expr} {es : List Expr} {f g : DEnv → M D} {A : DEnv → M (List D)} {pos p : Pos} {x : Str}
theorem nd_bor (hW : ∀ i ∈ W1, i ∈ W) (h : ED X ns c W1 e f) : PE X e (tDN X.K ns c W f) := by
  refine pe_weak h fun σ H Q q => ?_
  obtain ⟨Hs0, H0, Hs, ρ, n, k, n', R, e, q⟩ := q
  refine ⟨Hs0, H0, _, ρ, n, .int k, n', R.frz W1 hW, e, fun v Hs' H' e1 c1 r1 => ?_⟩
  rw [r1.int]
  exact q H' ⟨Same.rfl', e1.al, fun p o h => e1.al p o (fun q hq z => by rw [z, R.hc q hq] at h; cases h) (R.sub p o h), fun p h => .inl h⟩ c1
def sAppPop (i j : Nat) (g : DEnv → M D) : SDen := fun ρ n =>
  match g ρ n with
  | some (.int k, n') => match ρ[j]? with
    | some (some (.list ls)) => match ρ[i]? with
      | some (some (.list fs)) => if 0 ≤ k ∧ k < ls.length ∧ ls.length ≤ LIM then match ls[k.toNat]? with
        | some y => if fs.length < LIM then some (.nx ((ρ.set j (some (.list (ls.eraseIdx k.toNat)))).set i (some (.list (fs ++ [y])))), n') else none
        | none => none
        else none
      | _ => none
    | _ => none
  | _ => none
theorem sd_appPop (i j : Nat) {x y : Str} {p1 p2 a1 c1 a2 c2 spos : Pos} (he : PE X e (tDN X.K ns c W g)) (hi : X.N[i]? = some x := by rfl) (hj : X.N[j]? = some y := by rfl) (hv : Vis X.env.scope x := by first | exact .inl rfl | exact .inr (.inl rfl)) (hvj : Vis X.env.scope y := by first | exact .inl rfl | exact .inr (.inl rfl)) (hiW : i ∈ W := by decide) (hjW : j ∈ W := by decide) (hij : i ≠ j := by decide)
    (hd : (x == ("__debug__" : Str)) = false := by decide) (hcd : (x == ("__classdict__" : Str)) = false := by decide) (hd2 : (y == ("__debug__" : Str)) = false := by decide) (hcd2 : (y == ("__classdict__" : Str)) = false := by decide)
    (hbase : attributeBase (.Name x p1) "append" X.env (eval (.Name x p1) X.env) = eval (.Name x p1) X.env := by rfl) (hbase2 : attributeBase (.Name y p2) "pop" X.env (eval (.Name y p2) X.env) = eval (.Name y p2) X.env := by rfl)
    (hfew : ((backTo c1 (starEach [.Call (.Attribute (.Name y p2) "pop" a2) [e] [] c2] X.env)).all (fun x => !x.1) && (backToKw c1 (keywordEach [] X.env)).all (fun x => x.1.isSome)
      && decide ([Expr.Call (.Attribute (.Name y p2) "pop" a2) [e] [] c2].length + ([] : List Keyword).length + (if ([] : List Keyword).isEmpty then 0 else 1) < 30)) = true := by rfl)
    (hfew2 : ((backTo c2 (starEach [e] X.env)).all (fun x => !x.1) && (backToKw c2 (keywordEach [] X.env)).all (fun x => x.1.isSome)
      && decide ([e].length + ([] : List Keyword).length + (if ([] : List Keyword).isEmpty then 0 else 1) < 30)) = true := by rfl)
    (hline : (a1.endLine == c1.line) = true := by rfl) (hline2 : (a2.endLine == c2.line) = true := by rfl)
    (hs : starEach [.Call (.Attribute (.Name y p2) "pop" a2) [e] [] c2] X.env = (false, eval (.Call (.Attribute (.Name y p2) "pop" a2) [e] [] c2) X.env) :: starEach [] X.env := by rfl) (hs2 : starEach [e] X.env = (false, eval e X.env) :: starEach [] X.env := by rfl)
    (hplain : (backTo c1 (starEach [] X.env)).any (·.1) = false := by rfl) (hplain2 : (backTo c2 (starEach [] X.env)).any (·.1) = false := by rfl)
    (hsw : swapsWith (.Call (.Attribute (.Name x p1) "append" a1) [.Call (.Attribute (.Name y p2) "pop" a2) [e] [] c2] [] c1) none spos.line X.env = pure false := by rfl) :
    SD X fr ns c Wb W W (.Expr (.Call (.Attribute (.Name x p1) "append" a1) [.Call (.Attribute (.Name y p2) "pop" a2) [e] [] c2] [] c1) spos) (sAppPop i j g) := by
  refine ps_weak (ps_expr (pe_bm PySem.F.plainAttrs_list PySem.F.slot_list_append PySem.F.type_list_append mt_append (pe_var hi hv hd hcd) (pa_cons (pe_bm PySem.F.plainAttrs_list PySem.F.slot_list_pop PySem.F.type_list_pop mt_popAt (pe_var hj hvj hd2 hcd2) (pa_cons he pa_nil hs2) hbase2 hfew2 hline2 hs2 hplain2) pa_nil hs) hbase hfew hline hs hplain) hsw) fun E σ H q => ?_
  obtain ⟨Hs0, H0, Hs, ρ, n, o, n', R, e, q⟩ := q
  unfold sAppPop at e
  split at e
  · rename_i kk n1 h1
    split at e
    · rename_i ls h2
      split at e
      · rename_i fs h3
        split at e
        · rename_i hk
          obtain ⟨k0, k1, k2⟩ := hk
          split at e
          · rename_i yd h4
            split at e
            · rename_i hl
              cases e
              obtain ⟨pi, vi, di, i1, i2, i3, i4, i5, i6, i7⟩ := R.ownL hiW h3
              obtain ⟨pj, vj, dj, j1, j2, j3, j4, j5, j6, j7⟩ := R.ownL hjW h2
              rw [h3] at i1
              cases i1
              rw [h2] at j1
              cases j1
              have hne : pi ≠ pj := fun z => R.apart i hiW j hjW hij pi i2 (z ▸ j2)
              refine ⟨.ref pi, i2, .inl ⟨rfl, vi, SqL.of i3⟩, .ref pj, j2, .inl ⟨rfl, vj, SqL.of j3⟩, ?_⟩
              refine ⟨Hs0, H0, Hs, ρ, n, kk, _, R, h1, fun H1 e1 c1 => ?_⟩
              have R1 := R.step e1 c1
              have j3' : H1 pj = some (.lst vj) := e1.al _ _ j7 j3
              have i3' : H1 pi = some (.lst vi) := e1.al _ _ i7 i3
              obtain ⟨y, y1, y2⟩ := j4.getD h4
              refine ⟨pj, vj, kk, kk.toNat, y, rfl, rfl, j3', by omega, ?_, ?_, y1, ?_⟩
              · have : (ls.length : Int) ≤ 16777216 := by
                  have : ls.length ≤ 16777216 := k2
                  omega
                omega
              · unfold seqIndex?
                rw [j4.length]
                simp only [if_neg (show ¬ kk < 0 by omega)]
                rw [if_pos (by simp; omega)]
              · refine ⟨pi, vi, y, rfl, rfl, by rw [upd_ne hne]; exact i3', by rw [i4.length, LIM_eq]; exact hl, ?_⟩
                have R2 := R1.mut (vs := vj) hjW j2 (RpAll.eraseIdx kk.toNat j4)
                have R3 := R2.mut (vs := vi) (i := i) hiW i2 (i4.append (RpAll.one y2))
                exact q _ Hs _ Same.rfl' R3
            · cases e
          · cases e
        · cases e
      · cases e
    · cases e
  · cases e
end
end DL
/-! DLn: t[::-1] of a tuple. -/
namespace DL
open PySem PySem.Spec PyProof.Rows L2 _root_.HT
section
variable {prog : Program} {w : World} {A : Around} {E : Value → Shared → Prop} {s : Shared}
theorem adjust_rev (n : Nat) : Builtin.Slice.sliceAdjust none none (-1) (n : Int) = ((n : Int) - 1, -1) := by
  unfold Builtin.Slice.sliceAdjust
  simp
theorem places_rev (n : Nat) : Builtin.Slice.slicePlaces ((n : Int) - 1) (-1) (-1) = n := by
  unfold Builtin.Slice.slicePlaces
  simp
  split <;> omega
theorem sliceApplied_rev {sl : Addr} {vl vu vs : Value} {n : Nat} {Q : Int × Int × Nat → Shared → Prop} (hs : s.heap.IsSliceOf sl vl vu vs) (pl : IsPart vl none) (pu : IsPart vu none) (ps : IsPart vs (some (-1)))
    (h : Q ((n : Int) - 1, -1, n) s) : wpAny (model prog w) A (Builtin.Slice.sliceApplied (.ref sl) (pure (n : Int))) Q E s := by
  obtain ⟨os, hos, hcs, hds⟩ := id hs
  unfold Builtin.Slice.sliceApplied Builtin.Slice.sliceFields
  refine wpAny_bind (wpAny_bind (wpAny_field hos hds (x := vl) rfl (wpAny_bind (wpAny_field hos hds (x := vu) rfl (wpAny_bind (wpAny_field hos hds (x := vs) rfl (wpAny_pure ?_)))))))
  refine wpAny_bind (slicePart_ ps ?_)
  show wpAny _ _ (if ((-1 : Int) == 0) = true then _ else _) _ _ s
  rw [if_neg (by decide)]
  refine wpAny_bind (slicePart_ pl (wpAny_bind (slicePart_ pu (wpAny_bind (wpAny_pure ?_)))))
  show wpAny _ _ (match Builtin.Slice.sliceAdjust none none (-1) (n : Int) with | (lo, hi) => pure (lo, (-1 : Int), Builtin.Slice.slicePlaces lo hi (-1))) _ _ s
  rw [adjust_rev n]
  show wpAny _ _ (pure ((n : Int) - 1, (-1 : Int), Builtin.Slice.slicePlaces ((n : Int) - 1) (-1) (-1))) _ _ s
  rw [places_rev]
  exact wpAny_pure h
theorem range_rev (n : Nat) : (List.range n).map (fun k => n - 1 - k) = (List.range n).reverse := by
  refine List.ext_getElem (by simp) fun i h1 h2 => ?_
  simp
theorem fm_congr {α β : Type} {f g : α → Option β} : ∀ {l : List α}, (∀ x ∈ l, f x = g x) → l.filterMap f = l.filterMap g
  | [], _ => rfl
  | a :: l, h => by
    rw [List.filterMap_cons, List.filterMap_cons, h a List.mem_cons_self, fm_congr fun x hx => h x (List.mem_cons_of_mem _ hx)]
theorem pick_rev (xs : Array Value) : ((List.range xs.size).filterMap fun (k : Nat) => xs[((xs.size : Int) - 1 + (k : Int) * (-1)).toNat]?).toArray = xs.toList.reverse.toArray := by
  have e : ((List.range xs.size).filterMap fun (k : Nat) => xs[((xs.size : Int) - 1 + (k : Int) * (-1)).toNat]?) = ((List.range xs.size).map fun k => xs.size - 1 - k).filterMap fun m => xs[m]? := by
    rw [List.filterMap_map]
    refine fm_congr fun k hk => ?_
    have := List.mem_range.mp hk
    show xs[_]? = xs[xs.size - 1 - k]?
    congr 1
    omega
  have p := pick_gen xs 0 xs.size
  have e2 : (fun (m : Nat) => xs[(((0 : Nat) : Int) + (m : Int) * 1).toNat]?) = fun m => xs[m]? := by
    funext m
    have : (((0 : Nat) : Int) + (m : Int) * 1).toNat = m := by omega
    rw [this]
  rw [e2] at p
  have p' := congrArg Array.toList p
  simp only [List.drop_zero] at p'
  rw [e, range_rev, List.filterMap_reverse, p']
  congr 1
  rw [List.take_of_length_le (by simp)]
theorem getItem_tuple_rev {t sl : Addr} {items : Array Value} {vl vu vs : Value} {Q : Value → Shared → Prop} (ht : IsTup s.heap t items) (hs : s.heap.IsSliceOf sl vl vu vs) (pl : IsPart vl none) (pu : IsPart vu none) (ps : IsPart vs (some (-1)))
    (h : Q (.ref s.heap.objs.size) { s with heap := s.heap.push { cls := .type "tuple", data := .seq items.toList.reverse.toArray } })
    (hsz : items.size ≤ sizeLine) : wpAny (model prog w) A (getItem (.ref t) (.ref sl)) Q E s := by
  have htake : sizeOk (.seq items.toList.reverse.toArray) := by
    show items.toList.reverse.toArray.size ≤ sizeLine
    rw [List.size_toArray, List.length_reverse, Array.length_toList]
    exact hsz
  obtain ⟨os, hos, hcs, hds⟩ := id hs
  have hTs : s.TypeIs (.ref sl) "slice" := ⟨os, hos, hcs⟩
  unfold getItem
  try with_reducible refine wpAny_holding ?_
  first | refine wpAny_bind (wpAny_pure ?_) | skip
  refine wpAny_bind (wpAny_sequenceKey ht.typeIs (by decide) ?_)
  refine wpAny_bind (wpAny_callSpecial?_slot (name := Str.ofString "__getitem__") ht.typeIs PyProof.Rows.slot_tuple_getitem
    (wpAny_call_entry PyProof.Rows.slot_tuple_getitem ht.typeIs entry_tuple_getitem ?_ (args_tuple_getitem _ _)))
  show wpAny _ _ (Builtin.Tuple.tupleItemsOf (.ref t) >>= _) _ _ s
  refine wpAny_bind (tupleItemsOf_ ht ?_)
  refine wpAny_bind (wpAny_typeOf hTs ?_)
  rw [if_pos (by decide)]
  refine wpAny_bind (sliceApplied_rev hs pl pu ps ?_)
  have hno : ¬ (((items.size : Int) - 1 == 0 && (-1 : Int) == 1 && items.size == items.size) = true) := by
    intro q
    rw [Bool.and_eq_true, Bool.and_eq_true] at q
    exact absurd q.1.2 (by decide)
  show wpAny _ _ (if ((items.size : Int) - 1 == 0 && (-1 : Int) == 1 && items.size == items.size) = true then _ else _) _ _ s
  rw [if_neg hno, pick_rev]
  first
    | exact wpAny_bind (m := Builtin.Tuple.tupleExact _) (wpAny_newObj_type (wpAny_pure ⟨_, rfl, wpAny_pure h⟩) htake)
    | exact wpAny_bind (m := Builtin.Tuple.tupleExact _) (wpAny_newObj_type (wpAny_bind (wpAny_pure (wpAny_pure ⟨_, rfl, wpAny_pure h⟩))) htake)
    | exact wpAny_bind (wpAny_bind (m := Builtin.Tuple.tupleExact _) (wpAny_newObj_type (wpAny_pure (wpAny_pure ⟨_, rfl, wpAny_pure h⟩)) htake))
    | exact wpAny_bind (wpAny_bind (m := Builtin.Tuple.tupleExact _) (wpAny_newObj_type (wpAny_pure ⟨_, rfl, wpAny_pure h⟩) htake))
end
def tRevT (K : PySem.W.Frag) (te : TE) : TE := fun σ H Q => te σ H fun x H1 => ∃ a xs, x = .ref a ∧ SqT K H1 a xs ∧ ∀ p, H1 p = none → Q (.ref p) (upd H1 p (.tup xs.reverse))
section
variable {X : Cx}
theorem pe_revT {e : Expr} {te : TE} {k : Nat} {p1 p2 p3 pos : Pos} (he : PE X e te) : PE X (.Subscript e (.Slice none none (some (.UnaryOp .USub (.Constant (.int 1) k p1) p2)) p3) pos) (tRevT X.K te) := by
  refine ⟨fun pins s σ H Q I h => ?_⟩
  refine Subscript_ (thn (he.run pins s σ H _ I h) fun v s1 ⟨x, H1, I1, r1, q1⟩ => ?_)
  obtain ⟨a, xs, ex, hx, q⟩ := q1
  subst ex
  cases r1
  have hst : PO X (some (.UnaryOp .USub (.Constant (.int 1) k p1) p2)) (tPart (tUn (rU fun i => .int (-i)) (tC (.int 1)))) := po_some (pe_un un_neg pe_int)
  refine wpAny_Slice (thn (po_none.run pins s1 σ H1 (fun o H2 => o = none ∧ H2 = H1) I1 ⟨rfl, rfl⟩) fun vl s2 ⟨l, H2, I2, pl, el, e2⟩ => ?_)
  subst el e2
  refine thn (po_none.run pins s2 σ H2 (fun o H3 => o = none ∧ H3 = H2) I2 ⟨rfl, rfl⟩) fun vu s3 ⟨u, H3, I3, pu, eu, e3⟩ => ?_
  subst eu e3
  refine thn (hst.run pins s3 σ H3 (fun o H4 => o = some (-1) ∧ H4 = H3) I3 ⟨1, rfl, -1, rfl, rfl, rfl⟩) fun vs s4 ⟨o, H4, I4, ps, eo, e4⟩ => ?_
  subst eo e4
  have I5 : Inv X pins σ H4 { s4 with heap := s4.heap.push { cls := .type "slice", data := .fields #[vl, vu, vs] } } := I4.kept (t' := s4.toks) fun b ob q => Heap.get?_push_of_some _ q
  obtain ⟨its, r, ht, hz⟩ := I5.tuple hx
  have hlen := r.length
  show wpAny (model X.prog X.w) X.A (subscriptTail e (.Slice none none (some (.UnaryOp .USub (.Constant (.int 1) k p1) p2)) p3) (.ref a) (.ref s4.heap.objs.size)) (EP X pins σ Q) X.xe { s4 with heap := s4.heap.push { cls := .type "slice", data := .fields #[vl, vu, vs] } }
  refine tail_any (ops := [.ref a, .ref s4.heap.objs.size]) ht.typeIs (PyProof.Rows.slot_tuple_getitem.lookup) ?_ (by with_unfolding_all rfl)
  refine getItem_tuple_rev ht (Heap.IsSliceOf.new _ vl vu vs) pl pu ps ?_ (by rw [List.size_toArray]; omega)
  refine ⟨.ref _, _, I5.laid (t' := s4.toks) (o := .tup xs.reverse) (fun b ob q => Heap.get?_push_of_some _ q) (Nat.le_refl _) ?_, rfl, q _ (I5.hok.fresh (Nat.le_refl _))⟩
  exact ⟨by rw [List.length_reverse]; exact hz, _, r.reverse, IsTup.new _ _⟩
end
def hRevT : D → Option D
  | .tuple xs => some (.tuple xs.reverse)
  | _ => none
theorem RpAll.rev {K : PySem.W.Frag} {H : Hp} : ∀ {vs : List V} {ds : List D}, RpAll K H vs ds → RpAll K H vs.reverse ds.reverse
  | _, _, .nil => .nil
  | _, _, .cons r t => by
    rw [List.reverse_cons, List.reverse_cons]
    exact (RpAll.rev t).append (RpAll.one r)
theorem ed_revT {X : Cx} {ns : List Int} {c : Md} {W : List Nat} {e : Expr} {f : DEnv → M D} {k : Nat} {p1 p2 p3 pos : Pos} (he : ED X ns c W e f) : ED X ns c W (.Subscript e (.Slice none none (some (.UnaryOp .USub (.Constant (.int 1) k p1) p2)) p3) pos) (dUn hRevT f) := by
  refine pe_weak (pe_revT he) fun σ H Q q => ?_
  obtain ⟨Hs0, H0, Hs, ρ, n, z, n', R, e, q⟩ := q
  unfold dUn at e
  split at e
  · rename_i x n1 h1
    split at e
    · rename_i z' h2
      cases e
      refine ⟨Hs0, H0, Hs, ρ, n, x, _, R, h1, fun v Hs1 H1 e1 c1 r1 => ?_⟩
      have R1 := R.step e1 c1
      unfold hRevT at h2
      split at h2
      · cases h2
        obtain ⟨a, xs, rfl, t1, t2⟩ := r1.tuple
        refine ⟨a, xs, rfl, Same.seqT R1.sub t1, fun p hp => ?_⟩
        have e2 := ExtP.new1 (o := .tup xs.reverse) R1.sub hp
        exact q _ _ _ (e1.trans c1 e2.ext) (e2.cel c1) (.inl (.tup (SqT.of upd_same) (RpAll.same e2.st _ _ t2.rev)))
      · cases h2
    · cases e
  · cases e
end DL
/-! DLo: min and max of a list of ints; list[::-1]. -/
namespace DL
open PySem PySem.Spec PyProof.Rows L2
def minL : List Int → Option Int
  | [] => none
  | i :: is => match minL is with
    | none => some i
    | some j => some (if j < i then j else i)
def maxL : List Int → Option Int
  | [] => none
  | i :: is => match maxL is with
    | none => some i
    | some j => some (if i < j then j else i)
theorem minL_spec : ∀ {is : List Int} {m : Int}, minL is = some m → m ∈ is ∧ ∀ y ∈ is, m ≤ y
  | [], _, h => nomatch h
  | i :: is, m, h => by
    unfold minL at h
    split at h
    · rename_i e
      cases h
      cases is with
      | nil => exact ⟨List.mem_cons_self, fun y hy => by simp at hy; omega⟩
      | cons a l =>
        unfold minL at e
        split at e <;> cases e
    · rename_i j e
      obtain ⟨h1, h2⟩ := minL_spec e
      cases h
      split
      · rename_i q
        exact ⟨List.mem_cons_of_mem _ h1, fun y hy => by
          rcases List.mem_cons.mp hy with rfl | hy
          · omega
          · exact h2 y hy⟩
      · rename_i q
        exact ⟨List.mem_cons_self, fun y hy => by
          rcases List.mem_cons.mp hy with rfl | hy
          · omega
          · have := h2 y hy; omega⟩
theorem maxL_spec : ∀ {is : List Int} {m : Int}, maxL is = some m → m ∈ is ∧ ∀ y ∈ is, y ≤ m
  | [], _, h => nomatch h
  | i :: is, m, h => by
    unfold maxL at h
    split at h
    · rename_i e
      cases h
      cases is with
      | nil => exact ⟨List.mem_cons_self, fun y hy => by simp at hy; omega⟩
      | cons a l =>
        unfold maxL at e
        split at e <;> cases e
    · rename_i j e
      obtain ⟨h1, h2⟩ := maxL_spec e
      cases h
      split
      · rename_i q
        exact ⟨List.mem_cons_of_mem _ h1, fun y hy => by
          rcases List.mem_cons.mp hy with rfl | hy
          · omega
          · exact h2 y hy⟩
      · rename_i q
        exact ⟨List.mem_cons_self, fun y hy => by
          rcases List.mem_cons.mp hy with rfl | hy
          · omega
          · have := h2 y hy; omega⟩
def hMinL : List D → Option D
  | [.list ds] => match intsD ds with
    | some is => match minL is with
      | some m => some (.int m)
      | none => none
    | none => none
  | _ => none
def hMaxL : List D → Option D
  | [.list ds] => match intsD ds with
    | some is => match maxL is with
      | some m => some (.int m)
      | none => none
    | none => none
  | _ => none
theorem cb_minL {K : PySem.W.Frag} : CB K (rMin K) hMinL := by
  intro ns c Hs H vs ds z Q s r h q
  unfold hMinL at h
  split at h
  · split at h
    · rename_i is hi
      split at h
      · rename_i m hm
        cases h
        obtain ⟨v, rfl, rv⟩ := pr1 r
        obtain ⟨a, xs, rfl, h1, r1⟩ := rv.list
        have e := intsD_rp hi r1
        subst e
        obtain ⟨m1, m2⟩ := minL_spec hm
        refine ⟨a, is, rfl, SqL.of (s _ _ h1), List.length_pos_of_mem m1, fun m' h3 h4 => ?_⟩
        have : m' = m := by have := h4 m m1; have := m2 m' h3; omega
        subst this
        exact q _ Hs H (ExtP.refl s) (.int _)
      · cases h
    · cases h
  · cases h
theorem cb_maxL {K : PySem.W.Frag} : CB K (rMax K) hMaxL := by
  intro ns c Hs H vs ds z Q s r h q
  unfold hMaxL at h
  split at h
  · split at h
    · rename_i is hi
      split at h
      · rename_i m hm
        cases h
        obtain ⟨v, rfl, rv⟩ := pr1 r
        obtain ⟨a, xs, rfl, h1, r1⟩ := rv.list
        have e := intsD_rp hi r1
        subst e
        obtain ⟨m1, m2⟩ := maxL_spec hm
        refine ⟨a, is, rfl, SqL.of (s _ _ h1), List.length_pos_of_mem m1, fun m' h3 h4 => ?_⟩
        have : m' = m := by have := h4 m m1; have := m2 m' h3; omega
        subst this
        exact q _ Hs H (ExtP.refl s) (.int _)
      · cases h
    · cases h
  · cases h
/-! ### list[::-1] -/
def hRevL : D → Option D
  | .list xs => some (.list xs.reverse)
  | _ => none
theorem fd_revL {X : Cx} {ns : List Int} {c : Md} {W : List Nat} {e : Expr} {f : DEnv → M D} {k : Nat} {p1 p2 p3 pos : Pos} (he : ED X ns c W e f) : FD X ns c W (.Subscript e (.Slice none none (some (.UnaryOp .USub (.Constant (.int 1) k p1) p2)) p3) pos) (dUn hRevL f) := by
  refine pe_weak (pe_revL he) fun σ H Q q => ?_
  obtain ⟨Hs0, H0, Hs, ρ, n, zs, n', R, e, q⟩ := q
  unfold dUn at e
  split at e
  · rename_i x n1 h1
    split at e
    · rename_i z' h2
      cases e
      refine ⟨Hs0, H0, Hs, ρ, n, x, _, R, h1, fun v Hs1 H1 e1 c1 r1 => ?_⟩
      have R1 := R.step e1 c1
      unfold hRevL at h2
      split at h2
      · cases h2
        obtain ⟨a, xs, rfl, t1, t2⟩ := r1.list
        exact ⟨a, xs, rfl, SqL.of (R1.sub _ _ t1), fun p hp => Rel.newL R1 e1 c1 q hp t2.rev⟩
      · cases h2
    · cases e
  · cases e
theorem ed_revL {X : Cx} {ns : List Int} {c : Md} {W : List Nat} {e : Expr} {f : DEnv → M D} {k : Nat} {p1 p2 p3 pos : Pos} (he : ED X ns c W e f) : ED X ns c W (.Subscript e (.Slice none none (some (.UnaryOp .USub (.Constant (.int 1) k p1) p2)) p3) pos) (dUn hRevL f) := by
  have := ed_fresh (fd_revL (p1 := p1) (p2 := p2) (p3 := p3) (pos := pos) (k := k) he)
  have e2 : fLst (dUn hRevL f) = dUn hRevL f := by
    funext ρ n
    unfold fLst dUn
    cases f ρ n with
    | none => rfl
    | some q =>
      obtain ⟨d, n'⟩ := q
      cases d <;> rfl
  rw [e2] at this
  exact this
/-! ### own lists looked at for an int -/
def fInt (f : DEnv → M D) : DEnv → M D := fun ρ n => match f ρ n with
  | some (.int k, n') => some (.int k, n')
  | _ => none
theorem ed_borN {X : Cx} {ns : List Int} {c : Md} {W W1 : List Nat} {e : Expr} {f : DEnv → M D} (hW : ∀ i ∈ W1, i ∈ W) (h : ED X ns c W1 e f) : ED X ns c W e (fInt f) := by
  refine pe_weak (nd_bor hW h) fun σ H Q q => ?_
  obtain ⟨Hs0, H0, Hs, ρ, n, z, n', R, e, q⟩ := q
  unfold fInt at e
  split at e
  · rename_i k n1 h1
    cases e
    exact ⟨Hs0, H0, Hs, ρ, n, k, _, R, h1, fun H' e1 c1 => q (.int k) Hs H' e1 c1 (.inl (.int k))⟩
  · cases e
end DL
/-! DLp: objects whose fields don't change: fields read, methods called. -/
namespace DL
open PySem PySem.Spec PyProof.Rows L2
def lookF (f : Str) : List (D × D) → Option D
  | (.str g, d) :: kvs => if f == g then some d else lookF f kvs
  | _ => none
/-- the field f of an object of the class cls -/
def hFld (cls f : Str) : D → Option D
  | .dict ((.str c, .none) :: kvs) => if c = cls then lookF f kvs else none
  | _ => none
theorem lookF_rp {K : PySem.W.Frag} {H : Hp} {f : Str} {d : D} : ∀ {fs : List (Str × V)} {ds : List D}, RpAll K H (fs.map (·.2)) ds → lookF f (((fs.map (·.1)).zip ds).map fun p => (.str p.1, p.2)) = some d → ∃ v, fs.lookup f = some v ∧ Rp K H v d
  | [], _, _, h => by simp [lookF] at h
  | (g, v) :: fs, ds, r, h => by
    cases r with
    | @cons _ _ d0 ds0 r1 r2 =>
      have h' : (if f == g then some d0 else lookF f (((fs.map (·.1)).zip ds0).map fun p => (.str p.1, p.2))) = some d := h
      rw [List.lookup_cons]
      cases e : f == g with
      | true =>
        rw [e] at h'
        cases h'
        exact ⟨v, rfl, r1⟩
      | false =>
        rw [e] at h'
        exact lookF_rp r2 h'
theorem SRep.ob {K : PySem.W.Frag} {ns : List Int} {c : Md} {H : Hp} {v : V} {cls : Str} {kvs : List (D × D)} (h : SRep K ns c H v (.dict ((.str cls, .none) :: kvs))) : ∃ (a C dx : Addr) (fs : List (Str × V)) (ds : List D), v = .ref a ∧ PySem.W.nsIn K mainGlobals cls = some (some (.ref C)) ∧ H a = some (.ins C dx fs) ∧ RpAll K H (fs.map (·.2)) ds ∧ kvs = ((fs.map (·.1)).zip ds).map fun p => (.str p.1, p.2) := by
  rcases h with h | ⟨h, _⟩ | ⟨h, _⟩ | ⟨a, C, dx, cls', fs, ds, h1, h2, h3, h4, h5⟩ | ⟨_, _, _, _, _, _, h⟩
  · cases h
  · cases h
  · cases h
  · unfold mkOb at h5
    cases h5
    exact ⟨a, C, dx, fs, ds, h1, h2, h3, h4, rfl⟩
  · cases h
section
variable {X : Cx} {ns : List Int} {c : Md} {W : List Nat} {e : Expr} {f : DEnv → M D} {pos : Pos}
theorem ed_fld {cls x : Str} {C : Addr} (hC : PySem.W.nsIn X.K mainGlobals cls = some (some (.ref C))) (cl : Cls X.K C) (na : NoAttr X.K C x) (he : ED X ns c W e f) (hb : attributeBase e x X.env (eval e X.env) = eval e X.env := by rfl) : ED X ns c W (.Attribute e x pos) (dUn (hFld cls x) f) := by
  refine pe_weak (pe_fld he hb) fun σ H Q q => ?_
  obtain ⟨Hs0, H0, Hs, ρ, n, z, n', R, e, q⟩ := q
  unfold dUn at e
  split at e
  · rename_i d n1 h1
    split at e
    · rename_i z' h2
      cases e
      refine ⟨Hs0, H0, Hs, ρ, n, d, _, R, h1, fun v Hs1 H1 e1 c1 r1 => ?_⟩
      have R1 := R.step e1 c1
      unfold hFld at h2
      split at h2
      · rename_i cls' kvs
        have h3 : cls' = cls ∧ lookF x kvs = some z := by
          by_cases q : cls' = cls
          · rw [if_pos q] at h2; exact ⟨q, h2⟩
          · rw [if_neg q] at h2; cases h2
        obtain ⟨rfl, h3⟩ := h3
        obtain ⟨a, C', dx, fs, ds, rfl, k1, k2, k3, k4⟩ := r1.ob
        rw [hC] at k1
        cases k1
        subst k4
        obtain ⟨v, v1, v2⟩ := lookF_rp k3 h3
        exact ⟨a, C, dx, fs, v, rfl, R1.sub _ _ k2, cl, na, v1, q v Hs1 H1 e1 c1 (.inl v2)⟩
      · cases h2
    · cases e
  · cases e
theorem lookF_none {K : PySem.W.Frag} {H : Hp} {f : Str} : ∀ {fs : List (Str × V)} {ds : List D}, RpAll K H (fs.map (·.2)) ds → lookF f (((fs.map (·.1)).zip ds).map fun p => (.str p.1, p.2)) = none → fs.lookup f = none
  | [], _, _, _ => rfl
  | (g, v) :: fs, ds, r, h => by
    cases r with
    | @cons _ _ d0 ds0 r1 r2 =>
      have h' : (if f == g then some d0 else lookF f (((fs.map (·.1)).zip ds0).map fun p => (.str p.1, p.2))) = none := h
      rw [List.lookup_cons]
      cases e : f == g with
      | true => rw [e] at h'; cases h'
      | false =>
        rw [e] at h'
        exact lookF_none r2 h'
/-- is it an object of the class, without a field of that name? -/
def isOb (cls m : Str) : D → Bool
  | .dict ((.str c, .none) :: kvs) => decide (c = cls) && (lookF m kvs).isNone
  | _ => false
/-- o.m(..), a method that only reads -/
def dMeth (cls m : Str) (mt : List D → M D) (f : DEnv → M D) (A : DEnv → M (List D)) : DEnv → M D := fun ρ n =>
  match f ρ n with
  | some (o, n1) => if isOb cls m o = true then match A ρ n1 with
    | some (xs, n2) => mt (o :: xs) n2
    | none => none
    else none
  | none => none
structure MetD (P : Program) (w : World) (K : PySem.W.Frag) (mg : Str → Option Value) (base : Heap) (k : Nat) (cls m : Str) (ar : Nat) (mt : List Int → List D → M D) : Prop where
  ex : ∃ (C f : Addr) (fd : FuncData) (ps : List Str), (∀ ns, FnOk P w K mg base CX0 k f fd ps (spD K ns ar (mt ns))) ∧ PySem.W.nsIn K mainGlobals cls = some (some (.ref C)) ∧ Cls K C ∧ Meth K C m f ∧ Binds K fd ps []
variable {A : DEnv → M (List D)} {es : List Expr} {o : Expr} {cls m : Str} {apos : Pos}
theorem isOb_ins {K : PySem.W.Frag} {H : Hp} {v : V} {d : D} {C : Addr} (h : SRep K ns c H v d) (ho : isOb cls m d = true) (hC : PySem.W.nsIn K mainGlobals cls = some (some (.ref C))) : ∃ a dx fs, v = .ref a ∧ H a = some (.ins C dx fs) ∧ fs.lookup m = none := by
  unfold isOb at ho
  split at ho
  · rename_i cls' kvs
    rw [Bool.and_eq_true, decide_eq_true_eq] at ho
    obtain ⟨rfl, h2⟩ := ho
    obtain ⟨a, C', dx, fs, ds, rfl, k1, k2, k3, k4⟩ := h.ob
    rw [hC] at k1
    cases k1
    subst k4
    exact ⟨a, dx, fs, rfl, k2, lookF_none k3 (Option.isNone_iff_eq_none.mp h2)⟩
  · cases ho
theorem dMeth_some {mt : List D → M D} {ρ : DEnv} {n n' : Nat} {z : D} (e : dMeth cls m mt f A ρ n = some (z, n')) : ∃ x n1 xs n2, f ρ n = some (x, n1) ∧ isOb cls m x = true ∧ A ρ n1 = some (xs, n2) ∧ mt (x :: xs) n2 = some (z, n') := by
  unfold dMeth at e
  split at e
  · rename_i x n1 h1
    split at e
    · rename_i ho
      split at e
      · rename_i xs n2 h2
        exact ⟨x, n1, xs, n2, h1, ho, h2, e⟩
      · cases e
    · cases e
  · cases e
theorem ed_meth {kk ar : Nat} {mt : List Int → List D → M D} {fs : List (DEnv → M D)} {pl : Sem Bool} (C : MetD X.prog X.w X.K X.mg X.base kk cls m ar mt) (hr : Room kk X.A) (ho : ED X ns c W o f) (ha : AD X ns c W (e :: es) (dAs fs)) (har : fs.length + 1 = ar := by rfl)
    (hst : starEach (e :: es) X.env = (false, eval e X.env) :: starEach es X.env := by rfl) (hpl : (backTo pos (starEach es X.env)).any (·.1) = false := by rfl)
    (ht : eval (.Call (.Attribute o m apos) (e :: es) [] pos) X.env = (do
      let ov ← eval o X.env
      standAt apos.atName
      let (f, first) ← holding [ov] (getMethod ov m pl)
      callWith pos f first (backTo pos (starEach (e :: es) X.env)) (backToKw pos (keywordEach [] X.env))) := by rfl) : ED X ns c W (.Call (.Attribute o m apos) (e :: es) [] pos) (dMeth cls m (mt ns) f (dAs fs)) := by
  obtain ⟨C, fa, fd, ps, F, hC, cl, hm, hb⟩ := C.ex
  refine pe_weak (pe_meth (E := E0) ho cl hm (F ns) hr hb .nil pass0 ha hst hpl ht) fun σ H Q q => ?_
  obtain ⟨Hs0, H0, Hs, ρ, n, z, n', R, e, q⟩ := q
  obtain ⟨x, n1, xs, n2, h1, h2, h3, h4⟩ := dMeth_some e
  refine ⟨Hs0, H0, Hs, ρ, n, x, n1, R, h1, fun v Hs1 H1 e1 c1 r1 => ?_⟩
  have R1 := R.step e1 c1
  obtain ⟨a, dx, ff, rfl, k1, k2⟩ := isOb_ins r1 h2 hC
  refine ⟨a, dx, ff, rfl, R1.sub _ _ k1, k2, Hs0, H0, Hs1, ρ, n1, xs, n2, R1, h3, fun vs Hs2 H2 e2 c2 r2 => ?_⟩
  have R2 := R1.step e2 c2
  show spD X.K ns ar (mt ns) (V.ref a :: (vs ++ [])) H2 Q _
  rw [List.append_nil]
  refine ⟨by rw [List.length_cons, (Paired.length r2 : _ = _), dAs_len h3]; exact har, c, Hs2, x :: xs, n2, z, n', R2.sub, c2, R2.hc, .cons (r1.same e2.st) r2, h4, fun u Hs3 H3 e3 c3 r3 => q u Hs3 H3 ((e1.trans c1 e2).trans c2 e3) c3 r3⟩
theorem ed_meth0 {kk : Nat} {mt : List Int → List D → M D} {pl : Sem Bool} (C : MetD X.prog X.w X.K X.mg X.base kk cls m 1 mt) (hr : Room kk X.A) (ho : ED X ns c W o f)
    (ht : eval (.Call (.Attribute o m apos) [] [] pos) X.env = (do
      let ov ← eval o X.env
      standAt apos.atName
      let (f, first) ← holding [ov] (getMethod ov m pl)
      callWith pos f first (backTo pos (starEach [] X.env)) (backToKw pos (keywordEach [] X.env))) := by rfl) : ED X ns c W (.Call (.Attribute o m apos) [] [] pos) (dMeth cls m (mt ns) f (dAs [])) := by
  obtain ⟨C, fa, fd, ps, F, hC, cl, hm, hb⟩ := C.ex
  refine pe_weak (pe_meth0 (E := E0) ho cl hm (F ns) hr hb .nil pass0 ht) fun σ H Q q => ?_
  obtain ⟨Hs0, H0, Hs, ρ, n, z, n', R, e, q⟩ := q
  obtain ⟨x, n1, xs, n2, h1, h2, h3, h4⟩ := dMeth_some e
  cases h3
  refine ⟨Hs0, H0, Hs, ρ, n, x, _, R, h1, fun v Hs1 H1 e1 c1 r1 => ?_⟩
  have R1 := R.step e1 c1
  obtain ⟨a, dx, ff, rfl, k1, k2⟩ := isOb_ins r1 h2 hC
  refine ⟨a, dx, ff, rfl, R1.sub _ _ k1, k2, ?_⟩
  show spD X.K ns 1 (mt ns) [V.ref a] H1 Q E0
  exact ⟨rfl, c, Hs1, [x], _, z, n', R1.sub, c1, R1.hc, .cons r1 .nil, h4, fun u Hs3 H3 e3 c3 r3 => q u Hs3 H3 (e1.trans c1 e3) c3 r3⟩
end
end DL
/-! DLq: methods that change their own object. The object stands in slot 0, as data; c is none within. -/
namespace DL
open PySem PySem.Spec PyProof.Rows L2

/-! ### data that hold no list of given items -/
mutual
def eqD : D → D → Bool
  | .none, .none => true
  | .bool a, .bool b => a == b
  | .int a, .int b => decide (a = b)
  | .str a, .str b => decide (a = b)
  | .list xs, .list ys => eqDs xs ys
  | .tuple xs, .tuple ys => eqDs xs ys
  | _, _ => false
def eqDs : List D → List D → Bool
  | [], [] => true
  | x :: xs, y :: ys => eqD x y && eqDs xs ys
  | _, _ => false
end
mutual
/-- without tuples and dicts -/
def plainD : D → Bool
  | .list xs => plainDs xs
  | .tuple _ => false
  | .dict _ => false
  | _ => true
def plainDs : List D → Bool
  | [] => true
  | x :: xs => plainD x && plainDs xs
end
mutual
theorem eqD_refl : ∀ d : D, plainD d = true → eqD d d = true
  | .none, _ => rfl
  | .bool a, _ => by unfold eqD; simp
  | .int a, _ => by unfold eqD; simp
  | .str a, _ => by unfold eqD; simp
  | .list xs, h => by unfold eqD; exact eqDs_refl xs (by unfold plainD at h; exact h)
  | .tuple xs, h => by unfold plainD at h; cases h
  | .dict xs, h => by unfold plainD at h; cases h
theorem eqDs_refl : ∀ ds : List D, plainDs ds = true → eqDs ds ds = true
  | [], _ => rfl
  | d :: ds, h => by
    unfold plainDs at h
    rw [Bool.and_eq_true] at h
    unfold eqDs
    rw [eqD_refl d h.1, eqDs_refl ds h.2]
    rfl
end
mutual
/-- no list within it has just these items -/
def apartD (old : List D) : D → Bool
  | .list xs => !eqDs xs old && apartDs old xs
  | .tuple _ => false
  | .dict _ => false
  | _ => true
def apartDs (old : List D) : List D → Bool
  | [] => true
  | x :: xs => apartD old x && apartDs old xs
end
mutual
theorem apartD_plain {old : List D} : ∀ d : D, apartD old d = true → plainD d = true
  | .none, _ => rfl
  | .bool a, _ => rfl
  | .int a, _ => rfl
  | .str a, _ => rfl
  | .list xs, h => by
    unfold apartD at h
    rw [Bool.and_eq_true] at h
    unfold plainD
    exact apartDs_plain xs h.2
  | .tuple xs, h => by unfold apartD at h; cases h
  | .dict xs, h => by unfold apartD at h; cases h
theorem apartDs_plain {old : List D} : ∀ ds : List D, apartDs old ds = true → plainDs ds = true
  | [], _ => rfl
  | d :: ds, h => by
    unfold apartDs at h
    rw [Bool.and_eq_true] at h
    unfold plainDs
    rw [apartD_plain d h.1, apartDs_plain ds h.2]
    rfl
end
section
variable {K : PySem.W.Frag} {H : Hp}
mutual
theorem Rp.det : ∀ (d e : D) (v : V), plainD d = true → plainD e = true → Rp K H v d → Rp K H v e → d = e
  | .none, e, _, _, _, h1, h2 => by cases h1; cases h2; rfl
  | .bool b, e, _, _, _, h1, h2 => by cases h1; cases h2; rfl
  | .int i, e, _, _, _, h1, h2 => by cases h1; cases h2; rfl
  | .str x, e, _, _, _, h1, h2 => by cases h1; cases h2; rfl
  | .list ds, e, _, p1, p2, h1, h2 => by
    cases h1 with
    | lst a1 b1 =>
      cases h2 with
      | lst a2 b2 =>
        rw [a1] at a2
        cases a2
        unfold plainD at p1 p2
        rw [RpAll.det ds _ _ p1 p2 b1 b2]
      | tup a2 b2 => unfold plainD at p2; cases p2
  | .tuple ds, e, _, p1, _, _, _ => by unfold plainD at p1; cases p1
  | .dict ds, e, _, p1, _, _, _ => by unfold plainD at p1; cases p1
theorem RpAll.det : ∀ (ds es : List D) (vs : List V), plainDs ds = true → plainDs es = true → RpAll K H vs ds → RpAll K H vs es → ds = es
  | [], es, _, _, _, h1, h2 => by cases h1; cases h2; rfl
  | d :: ds, es, _, p1, p2, h1, h2 => by
    cases h1 with
    | cons r1 t1 =>
      cases h2 with
      | cons r2 t2 =>
        unfold plainDs at p1 p2
        rw [Bool.and_eq_true] at p1 p2
        rw [Rp.det d _ _ p1.1 p2.1 r1 r2, RpAll.det ds _ _ p1.2 p2.2 t1 t2]
end
variable {p : Addr} {vs : List V} {old : List D} {o : HO}
mutual
/-- the list at p changed: what holds no such list stays -/
theorem Rp.apart (hp : H p = some (.lst vs)) (hr : RpAll K H vs old) (ho : plainDs old = true) : ∀ (d : D) (v : V), apartD old d = true → Rp K H v d → Rp K (upd H p o) v d
  | .none, _, _, h => by cases h; exact .non
  | .bool b, _, _, h => by cases h; exact .bl b
  | .int i, _, _, h => by cases h; exact .int i
  | .str x, _, _, h => by cases h; exact .str x
  | .list ds, _, q, h => by
    cases h with
    | @lst a xs _ h1 h2 =>
      have pl := apartD_plain _ q
      unfold apartD at q
      rw [Bool.and_eq_true] at q
      refine .lst (a := a) (xs := xs) ?_ (RpAll.apart hp hr ho ds xs q.2 h2)
      have ne : a ≠ p := fun e => by
        subst e
        rw [h1] at hp
        cases hp
        unfold plainD at pl
        have : ds = old := RpAll.det ds old _ pl ho h2 hr
        subst this
        rw [eqDs_refl ds ho] at q
        exact Bool.noConfusion q.1
      rw [upd_ne ne]
      exact h1
  | .tuple ds, _, q, _ => by unfold apartD at q; cases q
  | .dict ds, _, q, _ => by unfold apartD at q; cases q
theorem RpAll.apart (hp : H p = some (.lst vs)) (hr : RpAll K H vs old) (ho : plainDs old = true) : ∀ (ds : List D) (ws : List V), apartDs old ds = true → RpAll K H ws ds → RpAll K (upd H p o) ws ds
  | [], _, _, h => by cases h; exact .nil
  | d :: ds, _, q, h => by
    cases h with
    | cons r t =>
      unfold apartDs at q
      rw [Bool.and_eq_true] at q
      exact .cons (Rp.apart hp hr ho d _ q.1 r) (RpAll.apart hp hr ho ds _ q.2 t)
end
end
/-- an object's own cell changed: data stay -/
theorem Same.seqT' {K : PySem.W.Frag} {H : Hp} {a b C dx : Addr} {fs : List (Str × V)} {o : HO} {xs : List V} (ha : H a = some (.ins C dx fs)) (h : SqT K H b xs) : SqT K (upd H a o) b xs := by
  rcases h with (h | ⟨o', h⟩) | h
  · refine .inl (.inl ?_)
    rw [upd_ne (fun e => by rw [e, ha] at h; cases h)]; exact h
  · refine .inl (.inr ⟨o', ?_⟩)
    rw [upd_ne (fun e => by rw [e, ha] at h; cases h)]; exact h
  · exact .inr h
section
variable {K : PySem.W.Frag} {H : Hp} {a C dx : Addr} {fs : List (Str × V)} {o : HO}
mutual
theorem Rp.ins (ha : H a = some (.ins C dx fs)) : ∀ (d : D) (v : V), Rp K H v d → Rp K (upd H a o) v d
  | .none, _, h => by cases h; exact .non
  | .bool b, _, h => by cases h; exact .bl b
  | .int i, _, h => by cases h; exact .int i
  | .str x, _, h => by cases h; exact .str x
  | .list ds, _, h => by
    cases h with
    | @lst b xs _ h1 h2 =>
      refine .lst (a := b) (xs := xs) ?_ (RpAll.ins ha ds xs h2)
      rw [upd_ne (fun e => by rw [e, ha] at h1; cases h1)]; exact h1
  | .tuple ds, _, h => by
    cases h with
    | tup h1 h2 => exact .tup (Same.seqT' ha h1) (RpAll.ins ha ds _ h2)
  | .dict ds, _, h => by cases h
theorem RpAll.ins (ha : H a = some (.ins C dx fs)) : ∀ (ds : List D) (ws : List V), RpAll K H ws ds → RpAll K (upd H a o) ws ds
  | [], _, h => by cases h; exact .nil
  | d :: ds, _, h => by
    cases h with
    | cons r t => exact .cons (Rp.ins ha d _ r) (RpAll.ins ha ds _ t)
end
end

/-! ### fields as data -/
def putO (f : Str) (d : D) : List (D × D) → List (D × D)
  | [] => [(.str f, d)]
  | (.str g, e) :: r => if g = f then (.str g, d) :: r else (.str g, e) :: putO f d r
  | x :: r => x :: putO f d r
def kvO (names : List Str) (ds : List D) : List (D × D) := (names.zip ds).map fun p => (.str p.1, p.2)
def putDs (f : Str) (d : D) : List Str → List D → List D
  | [], _ => [d]
  | g :: ns, e :: es => if g = f then d :: es else e :: putDs f d ns es
  | _ :: _, [] => []
theorem putF_mem {f : Str} {v : V} {x : Str} {w : V} : ∀ {fs : List (Str × V)}, (x, w) ∈ putF f v fs → w = v ∨ (x, w) ∈ fs
  | [], h => by
    unfold putF at h
    simp at h
    exact .inl h.2
  | (g, u) :: r, h => by
    unfold putF at h
    split at h
    · rcases List.mem_cons.mp h with h | h
      · cases h; exact .inl rfl
      · exact .inr (List.mem_cons_of_mem _ h)
    · rcases List.mem_cons.mp h with h | h
      · exact .inr (h ▸ List.mem_cons_self)
      · rcases putF_mem h with q | q
        · exact .inl q
        · exact .inr (List.mem_cons_of_mem _ q)
theorem putF_rp {K : PySem.W.Frag} {H : Hp} {f : Str} {v : V} {d : D} (r : Rp K H v d) : ∀ {fs : List (Str × V)} {ds : List D}, RpAll K H (fs.map (·.2)) ds → ∃ ds', RpAll K H ((putF f v fs).map (·.2)) ds' ∧ kvO ((putF f v fs).map (·.1)) ds' = putO f d (kvO (fs.map (·.1)) ds)
  | [], ds, h => by
    cases h
    exact ⟨[d], .cons r .nil, rfl⟩
  | (g, u) :: fs, ds, h => by
    cases h with
    | @cons _ _ d0 ds0 r1 t1 =>
      unfold putF
      by_cases e : g = f
      · rw [if_pos e]
        refine ⟨d :: ds0, .cons r t1, ?_⟩
        show (PyData.str g, d) :: kvO (fs.map (·.1)) ds0 = if g = f then _ else _
        rw [if_pos e]
        rfl
      · rw [if_neg e]
        obtain ⟨ds', h1, h2⟩ := putF_rp (f := f) (v := v) (d := d) r (fs := fs) (ds := ds0) t1
        refine ⟨d0 :: ds', .cons r1 h1, ?_⟩
        show (PyData.str g, d0) :: kvO ((putF f v fs).map (·.1)) ds' = if g = f then _ else (PyData.str g, d0) :: putO f d (kvO (fs.map (·.1)) ds0)
        rw [if_neg e, h2]
/-- the object's data with the field f changed -/
def obPut (cls f : Str) (d : D) : D → Option D
  | .dict ((.str c, .none) :: kvs) => if c = cls then some (.dict ((.str c, .none) :: putO f d kvs)) else none
  | _ => none

/-! ### the relation within such a method -/
structure RelM (K : PySem.W.Frag) (C : Addr) (cls : Str) (a : Addr) (fs0 : List (Str × V)) (Fr : List Nat) (Hs0 H0 Hs H : Hp) (σ : L2.St) (ρ : DEnv) : Prop where
  sub0 : Same Hs0 H0
  st : ∀ b o, Hs0 b = some o → b ≠ a → V.ref b ∉ fs0.map (·.2) → Hs b = some o
  al : ∀ b o, H0 b = some o → b ≠ a → V.ref b ∉ fs0.map (·.2) → H b = some o
  sub : Same Hs H
  new : ∀ p, Hs p ≠ none → Hs0 p ≠ none ∨ H0 p = none
  dom : ∀ p, H p = none → H0 p = none
  ob : ∃ dx fs ds, ρ[0]? = some (some (mkOb cls (fs.map (·.1)) ds)) ∧ Hs a = some (.ins C dx fs) ∧ RpAll K Hs (fs.map (·.2)) ds ∧ ∀ p, V.ref p ∈ fs.map (·.2) → V.ref p ∈ fs0.map (·.2) ∨ H0 p = none
  me : σ[0]? = some (some (.ref a))
  vars : ∀ (i : Nat) (d : D), i ≠ 0 → ρ[i]? = some (some d) → ∃ v, σ[i]? = some (some v) ∧ Rp K Hs v d
  fr : ∀ i ∈ Fr, i ≠ 0 ∧ ∀ p, σ[i]? = some (some (.ref p)) → H0 p = none
  len : σ.length = ρ.length
def EndsM (K : PySem.W.Frag) (C : Addr) (cls : Str) (a : Addr) (fs0 : List (Str × V)) (Fb Fr' : List Nat) (Hs0 H0 : Hp) (E : Ends) : Out → Prop
  | .nx ρ' => ∀ σ' Hs' H', RelM K C cls a fs0 Fr' Hs0 H0 Hs' H' σ' ρ' → E.nx σ' H'
  | .rt r => ∃ d o, r = .dict [(d, o)] ∧ ∀ v σ' ρ' Hs' H', RelM K C cls a fs0 [] Hs0 H0 Hs' H' σ' ρ' → ρ'[0]? = some (some o) → Rp K Hs' v d → E.rt v H'
  | .bk ρ' => ∀ σ' Hs' H', RelM K C cls a fs0 Fb Hs0 H0 Hs' H' σ' ρ' → E.bk σ' H'
  | .ct ρ' => ∀ σ' Hs' H', RelM K C cls a fs0 Fb Hs0 H0 Hs' H' σ' ρ' → E.ct σ' H'
  | .ex _ => False
def tMS (K : PySem.W.Frag) (C : Addr) (cls : Str) (Fb Fr Fr' : List Nat) (S : SDen) : TS := fun E σ H => ∃ a fs0 Hs0 H0 Hs ρ n o n', RelM K C cls a fs0 Fr Hs0 H0 Hs H σ ρ ∧ S ρ n = some (o, n') ∧ EndsM K C cls a fs0 Fb Fr' Hs0 H0 E o
abbrev MS (X : Cx) (C : Addr) (cls : Str) (Fb Fr Fr' : List Nat) (st : Stmt) (S : SDen) : Prop := PS X st (tMS X.K C cls Fb Fr Fr' S)
abbrev MSS (X : Cx) (C : Addr) (cls : Str) (Fb Fr Fr' : List Nat) (st : List Stmt) (S : SDen) : Prop := PSs X st (tMS X.K C cls Fb Fr Fr' S)
section
variable {K : PySem.W.Frag} {C : Addr} {cls : Str} {a : Addr} {fs0 : List (Str × V)} {Fr Fr' Fb Fr1 : List Nat} {Hs0 H0 Hs H Hs' H' : Hp} {σ : L2.St} {ρ : DEnv} {ns : List Int} {n n' : Nat}
theorem RelM.less (r : RelM K C cls a fs0 Fr Hs0 H0 Hs H σ ρ) (h : ∀ i ∈ Fr', i ∈ Fr) : RelM K C cls a fs0 Fr' Hs0 H0 Hs H σ ρ :=
  ⟨r.sub0, r.st, r.al, r.sub, r.new, r.dom, r.ob, r.me, r.vars, fun i hi => r.fr i (h i hi), r.len⟩
theorem RelM.rel (hC : PySem.W.nsIn K mainGlobals cls = some (some (.ref C))) (r : RelM K C cls a fs0 Fr Hs0 H0 Hs H σ ρ) : Rel K ns none [] Hs H Hs H σ ρ n := by
  obtain ⟨dx, fs, ds, h1, h2, h3, h4⟩ := r.ob
  refine ⟨(ExtP.refl r.sub).ext, fun p h => (nomatch h), fun p h => (nomatch h), fun i d h _ => ?_, fun i hi => absurd hi (by simp), fun i hi => absurd hi (by simp), r.len⟩
  by_cases z : i = 0
  · subst z
    rw [h1] at h
    cases h
    exact ⟨_, r.me, .inr (.inr (.inr (.inl ⟨a, C, dx, cls, fs, ds, rfl, hC, h2, h3, rfl⟩)))⟩
  · obtain ⟨v, q1, q2⟩ := r.vars i d z h
    exact ⟨v, q1, .inl q2⟩
theorem Ext.al0 (e : Ext none Hs H Hs' H') : Same H H' := fun b o h => e.al b o (fun p z => nomatch z) h
theorem RelM.step (r : RelM K C cls a fs0 Fr Hs0 H0 Hs H σ ρ) (e : Ext none Hs H Hs' H') : RelM K C cls a fs0 Fr Hs0 H0 Hs' H' σ ρ := by
  obtain ⟨dx, fs, ds, h1, h2, h3, h4⟩ := r.ob
  have al := e.al0
  refine ⟨r.sub0, fun b o h x y => e.st _ _ (r.st b o h x y), fun b o h x y => al _ _ (r.al b o h x y), e.sub, fun p h => ?_, fun p h => ?_, ⟨dx, fs, ds, h1, e.st _ _ h2, RpAll.same e.st _ _ h3, h4⟩, r.me, fun i d z h => ?_, r.fr, r.len⟩
  · rcases e.new p h with q | q
    · exact r.new p q
    · exact .inr (r.dom p q)
  · cases q : H p with
    | none => exact r.dom p q
    | some o => rw [al p o q] at h; cases h
  · obtain ⟨v, q1, q2⟩ := r.vars i d z h
    exact ⟨v, q1, Rp.same e.st _ _ q2⟩
theorem RelM.set (r : RelM K C cls a fs0 Fr Hs0 H0 Hs H σ ρ) {i : Nat} {v : V} {d : D} (hi : i ≠ 0) (hl : i < σ.length) (hF : ∀ j ∈ Fr', j ∈ Fr ∧ j ≠ i) (q : Rp K Hs v d) : RelM K C cls a fs0 Fr' Hs0 H0 Hs H (σ.set i (some v)) (ρ.set i (some d)) := by
  obtain ⟨dx, fs, ds, h1, h2, h3, h4⟩ := r.ob
  refine ⟨r.sub0, r.st, r.al, r.sub, r.new, r.dom, ⟨dx, fs, ds, by rw [List.getElem?_set_ne hi]; exact h1, h2, h3, h4⟩, by rw [List.getElem?_set_ne hi]; exact r.me, fun j e z h => ?_, fun j hj => ?_, by rw [List.length_set, List.length_set]; exact r.len⟩
  · by_cases q2 : i = j
    · subst q2
      rw [List.getElem?_set_self (by rw [← r.len]; exact hl)] at h
      cases h
      exact ⟨v, List.getElem?_set_self hl, q⟩
    · rw [List.getElem?_set_ne q2] at h ⊢
      exact r.vars j e z h
  · obtain ⟨f1, f2⟩ := hF j hj
    obtain ⟨g1, g2⟩ := r.fr j f1
    exact ⟨g1, fun p h => g2 p (by rw [List.getElem?_set_ne (Ne.symm f2)] at h; exact h)⟩
theorem RelM.setF (r : RelM K C cls a fs0 Fr Hs0 H0 Hs H σ ρ) {i : Nat} {p : Addr} {d : D} (hi : i ≠ 0) (hl : i < σ.length) (hF : ∀ j ∈ Fr', j = i ∨ j ∈ Fr) (q : Rp K Hs (.ref p) d) (hp : H0 p = none) : RelM K C cls a fs0 Fr' Hs0 H0 Hs H (σ.set i (some (.ref p))) (ρ.set i (some d)) := by
  have r1 := r.set (Fr' := []) (i := i) (v := .ref p) (d := d) hi hl (fun j h => absurd h (by simp)) q
  refine ⟨r1.sub0, r1.st, r1.al, r1.sub, r1.new, r1.dom, r1.ob, r1.me, r1.vars, fun j hj => ?_, r1.len⟩
  by_cases e : j = i
  · subst e
    refine ⟨hi, fun b h => ?_⟩
    rw [List.getElem?_set_self hl] at h
    cases h
    exact hp
  · obtain ⟨g1, g2⟩ := r.fr j ((hF j hj).resolve_left e)
    exact ⟨g1, fun b h => g2 b (by rw [List.getElem?_set_ne (Ne.symm e)] at h; exact h)⟩
/-- a field stored -/
theorem RelM.fld (r : RelM K C cls a fs0 Fr Hs0 H0 Hs H σ ρ) {f : Str} {v : V} {d : D} {o : D} {dx : Addr} {fs : List (Str × V)} (hH : H a = some (.ins C dx fs)) (ho : ∃ o0, ρ[0]? = some (some o0) ∧ obPut cls f d o0 = some o) (q : Rp K Hs v d) (hv : ∀ p, v = .ref p → V.ref p ∈ fs0.map (·.2) ∨ H0 p = none) :
    RelM K C cls a fs0 Fr Hs0 H0 (upd Hs a (.ins C dx (putF f v fs))) (upd H a (.ins C dx (putF f v fs))) σ (ρ.set 0 (some o)) := by
  obtain ⟨dx', fs', ds, h1, h2, h3, h4⟩ := r.ob
  have h2' := r.sub _ _ h2
  rw [hH] at h2'
  cases h2'
  obtain ⟨o0, p1, p2⟩ := ho
  rw [h1] at p1
  cases p1
  have l0 : 0 < ρ.length := by
    cases ρ with
    | nil => simp at h1
    | cons _ _ => simp
  have es : o = .dict ((.str cls, .none) :: putO f d (kvO (fs.map (·.1)) ds)) := by
    have : obPut cls f d (mkOb cls (fs.map (·.1)) ds) = some (.dict ((.str cls, .none) :: putO f d (kvO (fs.map (·.1)) ds))) := by
      show (if cls = cls then _ else _) = _
      rw [if_pos rfl]
      rfl
    rw [this] at p2
    cases p2
    rfl
  obtain ⟨ds', k1, k2⟩ := putF_rp (f := f) q h3
  refine ⟨r.sub0, fun b x h y z => ?_, fun b x h y z => ?_, fun b x h => ?_, fun b h => ?_, fun b h => ?_, ⟨dx, putF f v fs, ds', ?_, upd_same, RpAll.ins h2 _ _ k1, fun p hp => ?_⟩, r.me, fun i e z h => ?_, r.fr, by rw [List.length_set]; exact r.len⟩
  · rw [upd_ne y]; exact r.st b x h y z
  · rw [upd_ne y]; exact r.al b x h y z
  · by_cases e : b = a
    · subst e; rw [upd_same] at h ⊢; exact h
    · rw [upd_ne e] at h ⊢; exact r.sub b x h
  · by_cases e : b = a
    · subst e; exact r.new b (by rw [h2]; exact fun z => nomatch z)
    · rw [upd_ne e] at h; exact r.new b h
  · by_cases e : b = a
    · subst e; rw [upd_same] at h; cases h
    · rw [upd_ne e] at h; exact r.dom b h
  · rw [List.getElem?_set_self l0, es, ← k2]
    rfl
  · obtain ⟨⟨x, w⟩, hm, hw⟩ := List.mem_map.mp hp
    rcases putF_mem hm with e | e
    · exact hv p (e.symm.trans hw)
    · exact h4 p (List.mem_map.mpr ⟨(x, w), e, hw⟩)
  · rw [List.getElem?_set_ne (Ne.symm z)] at h
    obtain ⟨u, q1, q2⟩ := r.vars i e z h
    exact ⟨u, q1, Rp.ins h2 _ _ q2⟩
end
end DL
/-! DLr: the rules for methods that change their own object. -/
namespace DL
open PySem PySem.Spec PyProof.Rows L2
section
variable {X : Cx} {C : Addr} {cls : Str} {Fb Fr Fr' Fr1 : List Nat} {a b e k tg iter : Expr} {es : List Expr} {f g u : DEnv → M D} {pos : Pos} {st : Stmt} {rest : List Stmt} {S T : SDen} {t : DEnv → M Bool} {ns : List Int} {x : Str} {A : DEnv → M (List D)}
theorem EndsM.less {K : PySem.W.Frag} {a : Addr} {fs0 : List (Str × V)} {Hs0 H0 : Hp} {E : Ends} {o : Out} (h : ∀ i ∈ Fr', i ∈ Fr1) (q : EndsM K C cls a fs0 Fb Fr' Hs0 H0 E o) : EndsM K C cls a fs0 Fb Fr1 Hs0 H0 E o := by
  cases o with
  | nx ρ' => exact fun σ' Hs' H' r => q σ' Hs' H' (r.less h)
  | rt d => exact q
  | bk ρ' => exact q
  | ct ρ' => exact q
  | ex x => exact q
theorem mss_post (h : MSS X C cls Fb Fr Fr1 rest S) (hF : ∀ i ∈ Fr', i ∈ Fr1 := by decide) : MSS X C cls Fb Fr Fr' rest S := pss_weak h fun _ _ _ ⟨a, fs0, Hs0, H0, Hs, ρ, n, o, n', R, e, q⟩ => ⟨a, fs0, Hs0, H0, Hs, ρ, n, o, n', R, e, q.less hF⟩
theorem ms_pre (h : MS X C cls Fb Fr1 Fr' st S) (hF : ∀ i ∈ Fr1, i ∈ Fr := by decide) : MS X C cls Fb Fr Fr' st S := ps_weak h fun _ _ _ ⟨a, fs0, Hs0, H0, Hs, ρ, n, o, n', R, e, q⟩ => ⟨a, fs0, Hs0, H0, Hs, ρ, n, o, n', R.less hF, e, q⟩
theorem mss_nil : MSS X C cls Fb Fr Fr [] sNil := by
  refine pss_weak pss_nil fun E σ H q => ?_
  obtain ⟨a, fs0, Hs0, H0, Hs, ρ, n, o, n', R, e, q⟩ := q
  cases e
  exact q σ Hs H R
theorem mss_one (h : MS X C cls Fb Fr Fr' st S) : MSS X C cls Fb Fr Fr' [st] S := pss_one h
theorem mss_cons (h1 : MS X C cls Fb Fr Fr1 st S) (h2 : MSS X C cls Fb Fr1 Fr' rest T) : MSS X C cls Fb Fr Fr' (st :: rest) (sSeq S T) := by
  refine pss_weak (pss_cons h1 h2) fun E σ H q => ?_
  obtain ⟨a, fs0, Hs0, H0, Hs, ρ, n, o, n', R, e, q⟩ := q
  unfold sSeq at e
  split at e
  · rename_i ρ1 n1 h
    exact ⟨a, fs0, Hs0, H0, Hs, ρ, n, _, _, R, h, fun σ' Hs' H' r => ⟨a, fs0, Hs0, H0, Hs', ρ1, n1, o, n', r, e, q⟩⟩
  · refine ⟨a, fs0, Hs0, H0, Hs, ρ, n, o, n', R, e, ?_⟩
    cases o with
    | nx ρ' => rename_i hx; exact absurd e (hx _ _)
    | rt d => exact q
    | bk ρ' => exact q
    | ct ρ' => exact q
    | ex x => exact q
variable (hC : PySem.W.nsIn X.K mainGlobals cls = some (some (.ref C)))
include hC
theorem ms_if {A B : List Stmt} (ht : TD X ns none [] k t) (ha : MSS X C cls Fb Fr Fr' A S) (hb : MSS X C cls Fb Fr Fr' B T) : MS X C cls Fb Fr Fr' (.If k A B pos) (sIf t S T) := by
  refine ps_weak (ps_if ht ha hb) fun E σ H q => ?_
  obtain ⟨a, fs0, Hs0, H0, Hs, ρ, n, o, n', R, e, q⟩ := q
  obtain ⟨b, n1, h1, h2⟩ := dIf_some e
  refine ⟨Hs, H, Hs, ρ, n, b, n1, R.rel hC, h1, fun Hs1 H1 e1 c1 => ?_⟩
  rcases h2 with ⟨rfl, h2⟩ | ⟨rfl, h2⟩
  · exact iteT ⟨a, fs0, Hs0, H0, Hs1, ρ, n1, o, n', R.step e1, h2, q⟩
  · exact iteF ⟨a, fs0, Hs0, H0, Hs1, ρ, n1, o, n', R.step e1, h2, q⟩
theorem ms_while (m : Nat) {body : List Stmt} (hp : PassesOwn (model X.prog X.w) X.A X.env X.xe) (ht : TD X ns none [] k t) (hb : MSS X C cls Fr Fr Fr body S) : MS X C cls Fb Fr Fr (.While k body [] pos) (dWhile t S m) := by
  refine ps_weak (ps_while hp ht hb) fun E σ H q => ?_
  obtain ⟨a, fs0, Hs0, H0, Hs, ρ, n, o, n', R, e, q⟩ := q
  refine ⟨fun m σ H => ∃ Hs2 ρ2 n2, RelM X.K C cls a fs0 Fr Hs0 H0 Hs2 H σ ρ2 ∧ dWhile t S m ρ2 n2 = some (o, n'), ⟨m, Hs, ρ, n, R, e⟩, ?_⟩
  rintro m σ2 H2 ⟨Hs2, ρ2, n2, R2, e2⟩
  cases m with
  | zero => cases e2
  | succ m =>
    unfold dWhile at e2
    split at e2
    · rename_i n3 ht3
      cases e2
      exact ⟨Hs2, H2, Hs2, ρ2, n2, false, _, R2.rel hC, ht3, fun Hs3 H3 e3 c3 => iteF (q _ Hs3 H3 (R2.step e3))⟩
    · rename_i n3 ht3
      refine ⟨Hs2, H2, Hs2, ρ2, n2, true, n3, R2.rel hC, ht3, fun Hs3 H3 e3 c3 => iteT ?_⟩
      refine ⟨fun σ4 H4 => ∃ Hs4 ρ4 n4, RelM X.K C cls a fs0 Fr Hs0 H0 Hs4 H4 σ4 ρ4 ∧ dWhile t S m ρ4 n4 = some (o, n'), fun σ4 H4 h4 => ⟨m, Nat.lt_succ_self _, h4⟩, ?_⟩
      have R3 := R2.step e3
      split at e2
      · rename_i ρ4 n4 hS
        exact ⟨a, fs0, Hs0, H0, Hs3, ρ2, n3, _, _, R3, hS, fun σ5 Hs5 H5 R5 => ⟨_, ρ4, n4, R5, e2⟩⟩
      · rename_i ρ4 n4 hS
        exact ⟨a, fs0, Hs0, H0, Hs3, ρ2, n3, _, _, R3, hS, fun σ5 Hs5 H5 R5 => ⟨_, ρ4, n4, R5, e2⟩⟩
      · rename_i ρ4 n4 hS
        cases e2
        exact ⟨a, fs0, Hs0, H0, Hs3, ρ2, n3, _, _, R3, hS, fun σ5 Hs5 H5 R5 => q σ5 Hs5 H5 R5⟩
      · rename_i d4 n4 hS
        cases e2
        exact ⟨a, fs0, Hs0, H0, Hs3, ρ2, n3, _, _, R3, hS, q⟩
      · cases e2
        exact q.elim
      · cases e2
    · cases e2
/-- return e -/
def sRetM (f : DEnv → M D) : SDen := fun ρ n => match f ρ n with
  | some (d, n') => match ρ[0]? with
    | some (some o) => if noDict d = true then some (.rt (.dict [(d, o)]), n') else none
    | _ => none
  | none => none
theorem ms_ret (h : ED X ns none [] e f) : MS X C cls Fb Fr Fr' (.Return (some e) pos) (sRetM f) := by
  refine ps_weak (ps_ret h) fun E σ H q => ?_
  obtain ⟨a, fs0, Hs0, H0, Hs, ρ, n, o, n', R, e, q⟩ := q
  unfold sRetM at e
  split at e
  · rename_i d n1 h1
    split at e
    · rename_i o0 ho
      obtain ⟨hd, e'⟩ := Option.some_of_if e
      cases e'
      obtain ⟨d', o', er, q⟩ := q
      cases er
      exact ⟨Hs, H, Hs, ρ, n, d, _, R.rel hC, h1, fun v Hs' H' e1 c1 r1 => q v σ ρ Hs' H' ((R.step e1).less (fun _ z => nomatch z)) ho (r1.rp (noDict_of hd))⟩
    · cases e
  · cases e
omit hC in
theorem ms_retN : MS X C cls Fb Fr Fr' (.Return none pos) (sRetM (dC .none)) := by
  refine ps_weak ps_retN fun E σ H q => ?_
  obtain ⟨a, fs0, Hs0, H0, Hs, ρ, n, o, n', R, e, q⟩ := q
  unfold sRetM at e
  simp only [dC] at e
  split at e
  · rename_i o0 ho
    obtain ⟨hd, e'⟩ := Option.some_of_if e
    cases e'
    obtain ⟨d', o', er, q⟩ := q
    cases er
    exact q .non σ ρ Hs H (R.less (fun _ z => nomatch z)) ho .non
  · cases e
/-- x = e -/
def sSetM (i : Nat) (f : DEnv → M D) : SDen := fun ρ n => match f ρ n with
  | some (d, n') => if noDict d = true then some (.nx (ρ.set i (some d)), n') else none
  | none => none
theorem ms_set (i : Nat) {pos' : Pos} (hN : X.N.Nodup) (he : ED X ns none [] e f) (hi : X.N[i]? = some x := by rfl) (hx : Loc X.env.scope x := by first | exact .inl rfl | exact .inr rfl) (hi0 : i ≠ 0 := by decide) (hF : ∀ j ∈ Fr', j ∈ Fr ∧ j ≠ i := by decide) (hs : swapsWith e (some (.Name x pos')) pos.line X.env = pure false := by rfl)
    (hf : X.fn x = true ∨ X.env.scope.names.lookup x = some .local := by first | exact .inl rfl | exact .inr rfl | assumption) : MS X C cls Fb Fr Fr' (.Assign [.Name x pos'] e pos) (sSetM i f) := by
  refine ⟨fun pins s σ H E I q => (ps_set hN hi hx he hs hf).run pins s σ H E I ?_⟩
  have hlen : i < σ.length := by rw [I.len]; exact (List.getElem?_eq_some_iff.mp hi).1
  obtain ⟨a, fs0, Hs0, H0, Hs, ρ, n, o, n', R, e, q⟩ := q
  unfold sSetM at e
  split at e
  · rename_i d n1 h1
    obtain ⟨hd, e'⟩ := Option.some_of_if e
    cases e'
    exact ⟨Hs, H, Hs, ρ, n, d, _, R.rel hC, h1, fun v Hs' H' e1 c1 r1 => q _ Hs' H' ((R.step e1).set hi0 hlen hF (r1.rp (noDict_of hd)))⟩
  · cases e
/-- x = [.. for ..] on one line, x a plain local: the list is new -/
theorem ms_setLc (i : Nat) {y : Str} {py : Pos} {ifs : List Expr} {scope : Scope} {own : List (Str × Nat)} {ts : List Nat} {g : TgD} {it : DEnv → M (List D)} {spos : Pos} (hc : X.calm = true) (hN : X.N.Nodup) (hi : ID X ns none [] tg iter it) (ok : BlkOk X.N X.env.scope scope own)
    (hg : ∀ (s : Shared) (H : Hp) (C : Addr) (cl : List (Str × Addr)) (fp : List Addr), GD (X.blk s H scope (compEnvC scope cl C X.env) fp) ns none [] ts tg g) (ht : ∀ (s : Shared) (H : Hp) (C : Addr) (cl : List (Str × Addr)) (fp : List Addr), TsD (X.blk s H scope (compEnvC scope cl C X.env) fp) ns none [] ifs t)
    (he : ∀ (s : Shared) (H : Hp) (C : Addr) (cl : List (Str × Addr)) (fp : List Addr), ED (X.blk s H scope (compEnvC scope cl C X.env) fp) ns none [] e f) (hy : X.N[i]? = some y := by rfl) (hyl : X.env.scope.names.lookup y = some .local := by rfl)
    (hsw : swapsWith (.ListComp e [⟨tg, iter, ifs, 0⟩] scope pos) (some (.Name y py)) spos.line X.env = pure true := by exact sw_true rfl rfl rfl (by decide +kernel))
    (hts : ∀ j ∈ ts, j ∈ own.map (·.2) := by decide) (hi0 : i ≠ 0 := by decide) (hF : ∀ j ∈ Fr', j = i ∨ j ∈ Fr := by decide) (hs : ∀ x, foldedSetIterable iter X.env x = pure x := by intro _; rfl) :
    MS X C cls Fb Fr Fr' (.Assign [.Name y py] (.ListComp e [⟨tg, iter, ifs, 0⟩] scope pos) spos) (sSet i (fLst (dLc it (own.map (·.2)) g t f))) := by
  refine ⟨fun pins s σ H E I q => (ps_setLc (g := tDG X.K ns none [] ts g) (tt := tDT X.K ns none [] t) (te := tD X.K ns none [] f) hc hN hy hyl hsw hi ok hg ht he hs).run pins s σ H E I ?_⟩
  have hlen : i < σ.length := by rw [I.len]; exact (List.getElem?_eq_some_iff.mp hy).1
  obtain ⟨a, fs0, Hs0, H0, Hs, ρ, n, o, n', R, e, q⟩ := q
  unfold sSet fLst at e
  split at e
  · rename_i d n1 h1
    cases e
    split at h1
    · rename_i ds n2 h2
      cases h1
      refine tLcD hts (fun _ _ => by simp) σ H _ ⟨Hs, H, Hs, ρ, n, ds, _, R.rel hC, h2, fun p vs Hs' H' e1 c1 p0 p1 p2 r1 => ?_⟩
      have ee := e1.adopt p0 p1 p2
      exact q _ _ H' ((R.step ee).setF hi0 hlen hF (.lst upd_same (RpAll.same (same_upd' p1) _ _ r1)) (R.dom _ p0))
    · cases h1
  · cases e

/-! ### self.x = e -/
def scal : D → Bool
  | .list _ => false
  | .tuple _ => false
  | .dict _ => false
  | _ => true
omit hC in
theorem scal_ref {K : PySem.W.Frag} {H : Hp} {v : V} {d : D} (h : scal d = true) (r : Rp K H v d) {p : Addr} (e : v = .ref p) : False := by
  subst e
  cases r <;> cases h
omit hC in
theorem scal_noDict {d : D} (h : scal d = true) : noDict d = true := by
  cases d <;> first | rfl | cases h
/-- few fields -/
def fewO : D → Bool
  | .dict kvs => decide (kvs.length < 100)
  | _ => false
omit hC in
theorem fewO_len {K : PySem.W.Frag} {H : Hp} {fs : List (Str × V)} {ds : List D} (h : fewO (mkOb cls (fs.map (·.1)) ds) = true) (r : RpAll K H (fs.map (·.2)) ds) : fs.length < 1000 := by
  unfold fewO mkOb at h
  have h := of_decide_eq_true h
  have l := r.length
  rw [List.length_map] at l
  rw [List.length_cons, List.length_map, List.length_zip, List.length_map] at h
  omega
def sFldM (cls x : Str) (sc : Bool) (f : DEnv → M D) : SDen := fun ρ n => match f ρ n with
  | some (d, n') => if (noDict d && (!sc || scal d)) = true then match ρ[0]? with
    | some (some o) => if fewO o = true then match obPut cls x d o with
      | some o' => some (.nx (ρ.set 0 (some o')), n')
      | none => none
      else none
    | _ => none
    else none
  | none => none
omit hC in
theorem sFldM_some {sc : Bool} {ρ : DEnv} {n n' : Nat} {o : Out} (e : sFldM cls x sc f ρ n = some (o, n')) : ∃ d o0 o1, f ρ n = some (d, n') ∧ noDict d = true ∧ (sc = true → scal d = true) ∧ ρ[0]? = some (some o0) ∧ fewO o0 = true ∧ obPut cls x d o0 = some o1 ∧ o = .nx (ρ.set 0 (some o1)) := by
  unfold sFldM at e
  split at e
  · rename_i d n1 h1
    split at e
    · rename_i h2
      split at e
      · rename_i o0 h3
        split at e
        · rename_i hf
          split at e
          · rename_i o1 h4
            cases e
            rw [Bool.and_eq_true] at h2
            refine ⟨d, o0, o1, h1, h2.1, fun z => ?_, h3, hf, h4, rfl⟩
            have := h2.2
            rw [z] at this
            simpa using this
          · cases e
        · cases e
      · cases e
    · cases e
  · cases e
theorem ms_fldS {os : Str} {po ap : Pos} (cl : Cls X.K C) (na : NoAttr X.K C x) (he : ED X ns none [] e f) (h0 : X.N[0]? = some os := by rfl) (hv : Vis X.env.scope os := by first | exact .inl rfl | exact .inr (.inl rfl) | exact .inr (.inr rfl)) (hd : (os == ("__debug__" : Str)) = false := by decide) (hcd : (os == ("__classdict__" : Str)) = false := by decide)
    (hs : swapsWith e (some (.Attribute (.Name os po) x ap)) pos.line X.env = pure false := by rfl) : MS X C cls Fb Fr Fr (.Assign [.Attribute (.Name os po) x ap] e pos) (sFldM cls x true f) := by
  refine ps_weak (ps_fld (pe_var h0 hv hd hcd) he hs) fun E σ H q => ?_
  obtain ⟨a, fs0, Hs0, H0, Hs, ρ, n, o, n', R, e, q⟩ := q
  obtain ⟨d, o0, o1, h1, h2, h3, h4, hf, h5, rfl⟩ := sFldM_some e
  refine ⟨Hs, H, Hs, ρ, n, d, _, R.rel hC, h1, fun v Hs1 H1 e1 c1 r1 => ?_⟩
  have R1 := R.step e1
  have rv := r1.rp (noDict_of h2)
  obtain ⟨dx, fs, ds, k1, k2, k3, k4⟩ := R1.ob
  have k1' := k1
  rw [h4] at k1'
  cases k1'
  exact ⟨.ref a, R1.me, a, C, dx, fs, rfl, R1.sub _ _ k2, cl, na, fewO_len hf k3, q σ _ _ (R1.fld (R1.sub _ _ k2) ⟨_, h4, h5⟩ rv fun p z => (scal_ref (h3 rfl) rv z).elim)⟩
/-- .. where e gives a new list -/
theorem ms_fldF {os : Str} {po ap : Pos} (cl : Cls X.K C) (na : NoAttr X.K C x) (he : FD X ns none [] e f) (h0 : X.N[0]? = some os := by rfl) (hv : Vis X.env.scope os := by first | exact .inl rfl | exact .inr (.inl rfl) | exact .inr (.inr rfl)) (hd : (os == ("__debug__" : Str)) = false := by decide) (hcd : (os == ("__classdict__" : Str)) = false := by decide)
    (hs : swapsWith e (some (.Attribute (.Name os po) x ap)) pos.line X.env = pure false := by rfl) : MS X C cls Fb Fr Fr (.Assign [.Attribute (.Name os po) x ap] e pos) (sFldM cls x false (fLst f)) := by
  refine ps_weak (ps_fld (pe_var h0 hv hd hcd) he hs) fun E σ H q => ?_
  obtain ⟨a, fs0, Hs0, H0, Hs, ρ, n, o, n', R, e, q⟩ := q
  obtain ⟨d, o0, o1, h1, h2, h3, h4, hf, h5, rfl⟩ := sFldM_some e
  unfold fLst at h1
  split at h1
  · rename_i l n1 h1'
    cases h1
    refine ⟨Hs, H, Hs, ρ, n, l, _, R.rel hC, h1', fun p vs Hs1 H1 e1 c1 p0 p1 p2 r1 => ?_⟩
    have ee := e1.adopt p0 p1 p2
    have R1 := R.step ee
    have rv : Rp X.K (upd Hs1 p (.lst vs)) (.ref p) (.list l) := .lst upd_same (RpAll.same (same_upd' p1) _ _ r1)
    obtain ⟨dx, fs, ds, k1, k2, k3, k4⟩ := R1.ob
    have k1' := k1
    rw [h4] at k1'
    cases k1'
    exact ⟨.ref a, R1.me, a, C, dx, fs, rfl, R1.sub _ _ k2, cl, na, fewO_len hf k3, q σ _ _ (R1.fld (R1.sub _ _ k2) ⟨_, h4, h5⟩ rv fun p' z => by cases z; exact .inr (R.dom _ p0))⟩
  · cases h1
/-- .. where e is a name of a list that is new -/
theorem ms_fldV (i : Nat) {os y : Str} {po ap py : Pos} (cl : Cls X.K C) (na : NoAttr X.K C x) (hi : X.N[i]? = some y := by rfl) (hy : Vis X.env.scope y := by first | exact .inl rfl | exact .inr (.inl rfl) | exact .inr (.inr rfl)) (hF : i ∈ Fr := by decide) (hyd : (y == ("__debug__" : Str)) = false := by decide) (hyc : (y == ("__classdict__" : Str)) = false := by decide)
    (h0 : X.N[0]? = some os := by rfl) (hv : Vis X.env.scope os := by first | exact .inl rfl | exact .inr (.inl rfl) | exact .inr (.inr rfl)) (hd : (os == ("__debug__" : Str)) = false := by decide) (hcd : (os == ("__classdict__" : Str)) = false := by decide)
    (hs : swapsWith (.Name y py) (some (.Attribute (.Name os po) x ap)) pos.line X.env = pure false := by rfl) : MS X C cls Fb Fr Fr (.Assign [.Attribute (.Name os po) x ap] (.Name y py) pos) (sFldM cls x false (dVar i)) := by
  refine ps_weak (ps_fld (pe_var h0 hv hd hcd) (pe_var hi hy hyd hyc) hs) fun E σ H q => ?_
  obtain ⟨a, fs0, Hs0, H0, Hs, ρ, n, o, n', R, e, q⟩ := q
  obtain ⟨d, o0, o1, h1, h2, h3, h4, hf, h5, rfl⟩ := sFldM_some e
  obtain ⟨g1, g2⟩ := R.fr i hF
  unfold dVar at h1
  split at h1
  · rename_i d' hρ
    cases h1
    obtain ⟨v, w1, w2⟩ := R.vars i d g1 hρ
    obtain ⟨dx, fs, ds, k1, k2, k3, k4⟩ := R.ob
    have k1' := k1
    rw [h4] at k1'
    cases k1'
    exact ⟨v, w1, .ref a, R.me, a, C, dx, fs, rfl, R.sub _ _ k2, cl, na, fewO_len hf k3, q σ _ _ (R.fld (R.sub _ _ k2) ⟨_, h4, h5⟩ w2 fun p' z => by subst z; exact .inr (g2 _ w1))⟩
  · cases h1

/-! ### items set in place -/
/-- all others hold no such list: the slots but 0 and j, the fields but x -/
def slotsOK (old : List D) (j : Nat) (ρ : DEnv) : Prop := ∀ i d, i ≠ 0 → i ≠ j → ρ[i]? = some (some d) → apartD old d = true
def slotsOKb (old : List D) (j : Nat) (ρ : DEnv) : Bool := (List.range ρ.length).all fun i => i == 0 || i == j || match ρ[i]? with
  | some (some d) => apartD old d
  | _ => true
omit hC in
theorem slotsOK_of {old : List D} {j : Nat} {ρ : DEnv} (h : slotsOKb old j ρ = true) : slotsOK old j ρ := fun i d h0 hj hd => by
  have hl : i < ρ.length := (List.getElem?_eq_some_iff.mp hd).1
  unfold slotsOKb at h
  have := List.all_eq_true.mp h i (List.mem_range.mpr hl)
  rw [hd] at this
  simpa [h0, hj] using this
def allO (old : List D) : List (D × D) → Bool
  | [] => true
  | (_, e) :: r => apartD old e && allO old r
def fldsOK (old : List D) (x : Str) : List (D × D) → Bool
  | [] => true
  | (.str g, e) :: r => if g = x then allO old r else apartD old e && fldsOK old x r
  | _ => false
def kvs1 : D → List (D × D)
  | .dict (_ :: kvs) => kvs
  | _ => []
omit hC in
theorem allO_rp {K : PySem.W.Frag} {H : Hp} {p : Addr} {vs : List V} {old : List D} {o : HO} (hp : H p = some (.lst vs)) (hr : RpAll K H vs old) (ho : plainDs old = true) : ∀ {fs : List (Str × V)} {ds : List D}, RpAll K H (fs.map (·.2)) ds → allO old (kvO (fs.map (·.1)) ds) = true → RpAll K (upd H p o) (fs.map (·.2)) ds
  | [], ds, r, _ => by cases r; exact .nil
  | (g, u) :: fs, ds, r, h => by
    cases r with
    | @cons _ _ d0 ds0 r1 t1 =>
      have h' : (apartD old d0 && allO old (kvO (fs.map (·.1)) ds0)) = true := h
      rw [Bool.and_eq_true] at h'
      exact .cons (Rp.apart hp hr ho _ _ h'.1 r1) (allO_rp hp hr ho t1 h'.2)
omit hC in
theorem fldsOK_rp {K : PySem.W.Frag} {H : Hp} {p : Addr} {vs vs' : List V} {old new : List D} (hp : H p = some (.lst vs)) (hr : RpAll K H vs old) (ho : plainDs old = true) (hn : RpAll K (upd H p (.lst vs')) vs' new) : ∀ {fs : List (Str × V)} {ds : List D}, RpAll K H (fs.map (·.2)) ds → fs.lookup x = some (.ref p) → fldsOK old x (kvO (fs.map (·.1)) ds) = true →
    ∃ ds', RpAll K (upd H p (.lst vs')) (fs.map (·.2)) ds' ∧ kvO (fs.map (·.1)) ds' = putO x (.list new) (kvO (fs.map (·.1)) ds)
  | [], ds, _, l, _ => by cases l
  | (g, u) :: fs, ds, r, l, h => by
    cases r with
    | @cons _ _ d0 ds0 r1 t1 =>
      have h' : (if g = x then allO old (kvO (fs.map (·.1)) ds0) else apartD old d0 && fldsOK old x (kvO (fs.map (·.1)) ds0)) = true := h
      by_cases e : g = x
      · rw [if_pos e] at h'
        subst e
        rw [List.lookup_cons_self] at l
        cases l
        refine ⟨.list new :: ds0, .cons (.lst upd_same hn) (allO_rp hp hr ho t1 h'), ?_⟩
        show (PyData.str g, PyData.list new) :: kvO (fs.map (·.1)) ds0 = if g = g then _ else _
        rw [if_pos rfl]
        rfl
      · rw [if_neg e, Bool.and_eq_true] at h'
        have l' : fs.lookup x = some (.ref p) := by
          rw [List.lookup_cons] at l
          have : (x == g) = false := beq_eq_false_iff_ne.mpr (Ne.symm e)
          rw [this] at l
          exact l
        obtain ⟨ds', q1, q2⟩ := fldsOK_rp hp hr ho hn t1 l' h'.2
        refine ⟨d0 :: ds', .cons (Rp.apart hp hr ho _ _ h'.1 r1) q1, ?_⟩
        show (PyData.str g, d0) :: kvO (fs.map (·.1)) ds' = if g = x then _ else (PyData.str g, d0) :: putO x (.list new) (kvO (fs.map (·.1)) ds0)
        rw [if_neg e, q2]
omit hC in
theorem apartDs_set {old : List D} {d : D} (hd : apartD old d = true) : ∀ {ds : List D} (j : Nat), apartDs old ds = true → apartDs old (ds.set j d) = true
  | [], _, h => h
  | x :: xs, 0, h => by
    unfold apartDs at h
    rw [Bool.and_eq_true] at h
    show (apartD old d && apartDs old xs) = true
    rw [hd, h.2]; rfl
  | x :: xs, j + 1, h => by
    unfold apartDs at h
    rw [Bool.and_eq_true] at h
    show (apartD old x && apartDs old (xs.set j d)) = true
    rw [h.1, apartDs_set hd j h.2]; rfl
/-- self.x[g] = f -/
def sPutM (cls x : Str) (g f : DEnv → M D) : SDen := fun ρ n => match f ρ n with
  | some (d, n1) => match ρ[0]? with
    | some (some o) => match hFld cls x o with
      | some (.list old) => match g ρ n1 with
        | some (.int k, n2) => match setI old k d with
          | some new => match obPut cls x (.list new) o with
            | some o' => if apartDs old old = true ∧ apartD old d = true ∧ slotsOKb old 0 ρ = true ∧ fldsOK old x (kvs1 o) = true then some (.nx (ρ.set 0 (some o')), n2) else none
            | none => none
          | none => none
        | _ => none
      | _ => none
    | _ => none
  | none => none
omit hC in
theorem sPutM_some {ρ : DEnv} {n n' : Nat} {o : Out} (e : sPutM cls x g f ρ n = some (o, n')) : ∃ d n1 o0 old k new o1, f ρ n = some (d, n1) ∧ ρ[0]? = some (some o0) ∧ hFld cls x o0 = some (.list old) ∧ g ρ n1 = some (.int k, n') ∧ setI old k d = some new ∧ obPut cls x (.list new) o0 = some o1 ∧ apartDs old old = true ∧ apartD old d = true ∧ slotsOK old 0 ρ ∧ fldsOK old x (kvs1 o0) = true ∧ o = .nx (ρ.set 0 (some o1)) := by
  unfold sPutM at e
  split at e
  · rename_i d n1 h1
    split at e
    · rename_i o0 h2
      split at e
      · rename_i old h3
        split at e
        · rename_i k n2 h4
          split at e
          · rename_i new h5
            split at e
            · rename_i o1 h6
              split at e
              · rename_i h7
                cases e
                exact ⟨d, n1, o0, old, k, new, o1, h1, h2, h3, h4, h5, h6, h7.1, h7.2.1, slotsOK_of h7.2.2.1, h7.2.2.2, rfl⟩
              · cases e
            · cases e
          · cases e
        · cases e
      · cases e
    · cases e
  · cases e
omit hC in
theorem hFld_ob {names : List Str} {ds : List D} {z : D} (h : hFld cls x (mkOb cls names ds) = some z) : lookF x (kvO names ds) = some z := by
  have : hFld cls x (mkOb cls names ds) = if cls = cls then lookF x (kvO names ds) else none := rfl
  rw [this, if_pos rfl] at h
  exact h
theorem ms_putF {os : Str} {po ap tpos : Pos} (cl : Cls X.K C) (na : NoAttr X.K C x) (he : ED X ns none [] e f) (hk : ED X ns none [] k g) (h0 : X.N[0]? = some os := by rfl) (hv : Vis X.env.scope os := by first | exact .inl rfl | exact .inr (.inl rfl) | exact .inr (.inr rfl)) (hd : (os == ("__debug__" : Str)) = false := by decide) (hcd : (os == ("__classdict__" : Str)) = false := by decide)
    (hb : attributeBase (.Name os po) x X.env (eval (.Name os po) X.env) = eval (.Name os po) X.env := by rfl)
    (ha : ∀ v, assign (.Subscript (.Attribute (.Name os po) x ap) k tpos) X.env v = (do
      let ov ← holding [v] (eval (.Attribute (.Name os po) x ap) X.env)
      let iv ← holding [v, ov] (eval k X.env)
      standAt tpos
      holding [v, ov, iv] (setItem ov iv v)
      release [v, ov, iv] []) := by intro _; rfl) (hs : swapsWithSole [.Subscript (.Attribute (.Name os po) x ap) k tpos] e pos.line X.env = pure false := by rfl) (hw : swappedStores [.Subscript (.Attribute (.Name os po) x ap) k tpos] e X.env = pure none := by rfl)
    (h1 : (assignEach [.Subscript (.Attribute (.Name os po) x ap) k tpos] X.env).map (·.2) = [assign (.Subscript (.Attribute (.Name os po) x ap) k tpos) X.env] := by rfl) : MS X C cls Fb Fr Fr (.Assign [.Subscript (.Attribute (.Name os po) x ap) k tpos] e pos) (sPutM cls x g f) := by
  refine ps_weak (ps_asg he (pg_sub (pe_fld (pe_var h0 hv hd hcd) hb) hk set_list ha) hs hw h1) fun E σ H q => ?_
  obtain ⟨a, fs0, Hs0, H0, Hs, ρ, n, o, n', R, e, q⟩ := q
  obtain ⟨d, n1, o0, old, kk, new, o1, e1, e2, e3, e4, e5, e6, e7, e8, e9, e10, rfl⟩ := sPutM_some e
  refine ⟨Hs, H, Hs, ρ, n, d, n1, R.rel hC, e1, fun v Hs1 H1 x1 c1 r1 => ?_⟩
  have R1 := R.step x1
  obtain ⟨dx, fs, ds, k1, k2, k3, k4⟩ := R1.ob
  have k1' := k1
  rw [e2] at k1'
  cases k1'
  obtain ⟨fv, l1, l2⟩ := lookF_rp k3 (hFld_ob e3)
  obtain ⟨p, vs, rfl, a1, a2⟩ := (show ∃ p vs, fv = V.ref p ∧ Hs1 p = some (.lst vs) ∧ RpAll X.K Hs1 vs old from by cases l2 with | lst a1 a2 => exact ⟨_, _, rfl, a1, a2⟩)
  refine ⟨.ref a, R1.me, a, C, dx, fs, .ref p, rfl, R1.sub _ _ k2, cl, na, l1, ?_⟩
  refine ⟨Hs1, H1, Hs1, ρ, n1, .int kk, n', R1.rel hC, e4, fun w Hs2 H2 x2 c2 r2 => ?_⟩
  have R2 := R1.step x2
  have a1' := x2.st _ _ a1
  have a2' := RpAll.same x2.st _ _ a2
  have k2' := x2.st _ _ k2
  have k3' := RpAll.same x2.st _ _ k3
  unfold setI at e5
  split at e5
  · rename_i hnd
    split at e5
    · rename_i j hj
      cases e5
      have rw2 : w = .int kk := r2.int
      refine ⟨p, vs, kk, j, rfl, rw2, R2.sub _ _ a1', by rw [a2'.length]; exact hj, ?_⟩
      have pl := apartDs_plain _ e7
      have rv : Rp X.K Hs2 v d := Rp.same x2.st _ _ (r1.rp (noDict_of hnd))
      have hn : RpAll X.K (upd Hs2 p (.lst (vs.set j v))) (vs.set j v) (old.set j d) := RpAll.apart a1' a2' pl _ _ (apartDs_set e8 j e7) (RpAll.set rv j a2')
      obtain ⟨ds', q1, q2⟩ := fldsOK_rp (x := x) a1' a2' pl hn k3' l1 e10
      have pa : a ≠ p := fun z => by subst z; rw [k2'] at a1'; cases a1'
      have pfs : V.ref p ∈ fs0.map (·.2) ∨ H0 p = none := k4 p (by
        obtain ⟨l, hl1, hl2⟩ : ∃ l, l ∈ fs ∧ l.2 = V.ref p := by
          have gen : ∀ {fs : List (Str × V)}, fs.lookup x = some (V.ref p) → ∃ l, l ∈ fs ∧ l.2 = V.ref p := by
            intro fs
            induction fs with
            | nil => intro h; cases h
            | cons y r ih =>
              intro h
              rw [List.lookup_cons] at h
              split at h
              · exact ⟨y, List.mem_cons_self, Option.some.inj h⟩
              · obtain ⟨l, h1, h2⟩ := ih h
                exact ⟨l, List.mem_cons_of_mem _ h1, h2⟩
          exact gen l1
        exact List.mem_map.mpr ⟨l, hl1, hl2⟩)
      have es : o1 = .dict ((.str cls, .none) :: putO x (.list (old.set j d)) (kvO (fs.map (·.1)) ds)) := by
        have : obPut cls x (.list (old.set j d)) (mkOb cls (fs.map (·.1)) ds) = some (.dict ((.str cls, .none) :: putO x (.list (old.set j d)) (kvO (fs.map (·.1)) ds))) := by
          show (if cls = cls then _ else _) = _
          rw [if_pos rfl]
          rfl
        rw [this] at e6
        cases e6
        rfl
      have l0 : 0 < ρ.length := by
        cases ρ with
        | nil => simp at k1
        | cons _ _ => simp
      refine q σ (upd Hs2 p (.lst (vs.set j v))) _ ⟨R2.sub0, fun b x h y z => ?_, fun b x h y z => ?_, fun b x h => ?_, fun b h => ?_, fun b h => ?_, ⟨dx, fs, ds', ?_, by rw [upd_ne pa]; exact k2', q1, k4⟩, R2.me, fun i e z h => ?_, R2.fr, by rw [List.length_set]; exact R2.len⟩
      · have : b ≠ p := fun e => by
          subst e
          rcases pfs with w | w
          · exact z w
          · rw [R2.sub0 _ _ h] at w; cases w
        rw [upd_ne this]; exact R2.st b x h y z
      · have : b ≠ p := fun e => by
          subst e
          rcases pfs with w | w
          · exact z w
          · rw [h] at w; cases w
        rw [upd_ne this]; exact R2.al b x h y z
      · by_cases e : b = p
        · subst e; rw [upd_same] at h ⊢; exact h
        · rw [upd_ne e] at h ⊢; exact R2.sub b x h
      · by_cases e : b = p
        · subst e; exact R2.new b (by rw [a1']; exact fun z => nomatch z)
        · rw [upd_ne e] at h; exact R2.new b h
      · by_cases e : b = p
        · subst e; rw [upd_same] at h; cases h
        · rw [upd_ne e] at h; exact R2.dom b h
      · rw [List.getElem?_set_self l0, es, ← q2]
        rfl
      · rw [List.getElem?_set_ne (Ne.symm z)] at h
        obtain ⟨u, q1, q2⟩ := R2.vars i e z h
        exact ⟨u, q1, Rp.apart a1' a2' pl _ _ (e9 i e z z h) q2⟩
    · cases e5
  · cases e5
end
end DL
/-! DLt: methods that change their own object: local lists set in place, calls, defs; objects made. -/
namespace DL
open PySem PySem.Spec PyProof.Rows L2
section
variable {X : Cx} {C : Addr} {cls : Str} {Fb Fr Fr' Fr1 : List Nat} {a b e k tg iter : Expr} {es : List Expr} {f g u : DEnv → M D} {pos : Pos} {st : Stmt} {rest : List Stmt} {S T : SDen} {t : DEnv → M Bool} {ns : List Int} {x : Str} {A : DEnv → M (List D)}
/-- xs[g] = f, xs in slot i a list that is new -/
def sPutLM (i : Nat) (g f : DEnv → M D) : SDen := fun ρ n => match f ρ n with
  | some (d, n1) => match ρ[i]? with
    | some (some (.list old)) => match g ρ n1 with
      | some (.int k, n2) => match setI old k d with
        | some new => match ρ[0]? with
          | some (some o) => if apartDs old old = true ∧ apartD old d = true ∧ slotsOKb old i ρ = true ∧ allO old (kvs1 o) = true then some (.nx (ρ.set i (some (.list new))), n2) else none
          | _ => none
        | none => none
      | _ => none
    | _ => none
  | none => none
theorem sPutLM_some {i : Nat} {ρ : DEnv} {n n' : Nat} {o : Out} (e : sPutLM i g f ρ n = some (o, n')) : ∃ d n1 old k new o0, f ρ n = some (d, n1) ∧ ρ[i]? = some (some (.list old)) ∧ g ρ n1 = some (.int k, n') ∧ setI old k d = some new ∧ ρ[0]? = some (some o0) ∧ apartDs old old = true ∧ apartD old d = true ∧ slotsOK old i ρ ∧ allO old (kvs1 o0) = true ∧ o = .nx (ρ.set i (some (.list new))) := by
  unfold sPutLM at e
  split at e
  · rename_i d n1 h1
    split at e
    · rename_i old h2
      split at e
      · rename_i k n2 h3
        split at e
        · rename_i new h4
          split at e
          · rename_i o0 h5
            split at e
            · rename_i h7
              cases e
              exact ⟨d, n1, old, k, new, o0, h1, h2, h3, h4, h5, h7.1, h7.2.1, slotsOK_of h7.2.2.1, h7.2.2.2, rfl⟩
            · cases e
          · cases e
        · cases e
      · cases e
    · cases e
  · cases e
theorem ms_putL (hC : PySem.W.nsIn X.K mainGlobals cls = some (some (.ref C))) (i : Nat) {y : Str} {py tpos : Pos} (he : ED X ns none [] e f) (hk : ED X ns none [] k g) (hi : X.N[i]? = some y := by rfl) (hv : Vis X.env.scope y := by first | exact .inl rfl | exact .inr (.inl rfl) | exact .inr (.inr rfl)) (hF : i ∈ Fr := by decide) (hd : (y == ("__debug__" : Str)) = false := by decide) (hcd : (y == ("__classdict__" : Str)) = false := by decide)
    (ha : ∀ v, assign (.Subscript (.Name y py) k tpos) X.env v = (do
      let ov ← holding [v] (eval (.Name y py) X.env)
      let iv ← holding [v, ov] (eval k X.env)
      standAt tpos
      holding [v, ov, iv] (setItem ov iv v)
      release [v, ov, iv] []) := by intro _; rfl) (hs : swapsWithSole [.Subscript (.Name y py) k tpos] e pos.line X.env = pure false := by rfl) (hw : swappedStores [.Subscript (.Name y py) k tpos] e X.env = pure none := by rfl)
    (h1 : (assignEach [.Subscript (.Name y py) k tpos] X.env).map (·.2) = [assign (.Subscript (.Name y py) k tpos) X.env] := by rfl) : MS X C cls Fb Fr Fr (.Assign [.Subscript (.Name y py) k tpos] e pos) (sPutLM i g f) := by
  refine ps_weak (ps_asg he (pg_sub (pe_var hi hv hd hcd) hk set_list ha) hs hw h1) fun E σ H q => ?_
  obtain ⟨a, fs0, Hs0, H0, Hs, ρ, n, o, n', R, e, q⟩ := q
  obtain ⟨d, n1, old, kk, new, o0, e1, e2, e4, e5, e6, e7, e8, e9, e10, rfl⟩ := sPutLM_some e
  obtain ⟨i0, hfr⟩ := R.fr i hF
  refine ⟨Hs, H, Hs, ρ, n, d, n1, R.rel hC, e1, fun v Hs1 H1 x1 c1 r1 => ?_⟩
  have R1 := R.step x1
  obtain ⟨fv, l1, l2⟩ := R1.vars i _ i0 e2
  obtain ⟨p, vs, rfl, a1, a2⟩ := (show ∃ p vs, fv = V.ref p ∧ Hs1 p = some (.lst vs) ∧ RpAll X.K Hs1 vs old from by cases l2 with | lst a1 a2 => exact ⟨_, _, rfl, a1, a2⟩)
  refine ⟨.ref p, l1, ?_⟩
  refine ⟨Hs1, H1, Hs1, ρ, n1, .int kk, n', R1.rel hC, e4, fun w Hs2 H2 x2 c2 r2 => ?_⟩
  have R2 := R1.step x2
  obtain ⟨dx, fs, ds, k1, k2, k3, k4⟩ := R2.ob
  have k1' := k1
  rw [e6] at k1'
  cases k1'
  have a1' := x2.st _ _ a1
  have a2' := RpAll.same x2.st _ _ a2
  unfold setI at e5
  split at e5
  · rename_i hnd
    split at e5
    · rename_i j hj
      cases e5
      have rw2 : w = .int kk := r2.int
      refine ⟨p, vs, kk, j, rfl, rw2, R2.sub _ _ a1', by rw [a2'.length]; exact hj, ?_⟩
      have pl := apartDs_plain _ e7
      have rv : Rp X.K Hs2 v d := Rp.same x2.st _ _ (r1.rp (noDict_of hnd))
      have hn : RpAll X.K (upd Hs2 p (.lst (vs.set j v))) (vs.set j v) (old.set j d) := RpAll.apart a1' a2' pl _ _ (apartDs_set e8 j e7) (RpAll.set rv j a2')
      have q1 := allO_rp (o := .lst (vs.set j v)) a1' a2' pl k3 e10
      have pa : a ≠ p := fun z => by subst z; rw [k2] at a1'; cases a1'
      have p0 : H0 p = none := hfr p l1
      have il : i < ρ.length := (List.getElem?_eq_some_iff.mp e2).1
      refine q σ (upd Hs2 p (.lst (vs.set j v))) _ ⟨R2.sub0, fun b x h y z => ?_, fun b x h y z => ?_, fun b x h => ?_, fun b h => ?_, fun b h => ?_, ⟨dx, fs, ds, by rw [List.getElem?_set_ne i0]; exact k1, by rw [upd_ne pa]; exact k2, q1, k4⟩, R2.me, fun i' e z h => ?_, R2.fr, by rw [List.length_set]; exact R2.len⟩
      · have : b ≠ p := fun e => by
          subst e
          rw [R2.sub0 _ _ h] at p0; cases p0
        rw [upd_ne this]; exact R2.st b x h y z
      · have : b ≠ p := fun e => by
          subst e
          rw [h] at p0; cases p0
        rw [upd_ne this]; exact R2.al b x h y z
      · by_cases e : b = p
        · subst e; rw [upd_same] at h ⊢; exact h
        · rw [upd_ne e] at h ⊢; exact R2.sub b x h
      · by_cases e : b = p
        · subst e; exact R2.new b (by rw [a1']; exact fun z => nomatch z)
        · rw [upd_ne e] at h; exact R2.new b h
      · by_cases e : b = p
        · subst e; rw [upd_same] at h; cases h
        · rw [upd_ne e] at h; exact R2.dom b h
      · by_cases q2 : i = i'
        · subst q2
          rw [List.getElem?_set_self il] at h
          cases h
          exact ⟨.ref p, l1, .lst upd_same hn⟩
        · rw [List.getElem?_set_ne q2] at h
          obtain ⟨u, w1, w2⟩ := R2.vars i' e z h
          exact ⟨u, w1, Rp.apart a1' a2' pl _ _ (e9 i' e z (Ne.symm q2) h) w2⟩
    · cases e5
  · cases e5

/-! ### what such a method promises -/
def spM (K : PySem.W.Frag) (C : Addr) (cls : Str) (ar : Nat) (m : List D → M (D × D)) : Sp := fun vs H Q _ => vs.length = ar ∧ ∃ a ws Hs dx fs ds es n d o' n', vs = .ref a :: ws ∧ Same Hs H ∧ Hs a = some (.ins C dx fs) ∧ RpAll K Hs (fs.map (·.2)) ds ∧ RpAll K Hs ws es ∧ m (mkOb cls (fs.map (·.1)) ds :: es) n = some ((d, o'), n') ∧
  ∀ v dx' fs' ds' Hs' H', o' = mkOb cls (fs'.map (·.1)) ds' → (∀ b o, Hs b = some o → b ≠ a → V.ref b ∉ fs.map (·.2) → Hs' b = some o) → (∀ b o, H b = some o → b ≠ a → V.ref b ∉ fs.map (·.2) → H' b = some o) → Same Hs' H' → (∀ p, Hs' p ≠ none → Hs p ≠ none ∨ H p = none) → (∀ p, H' p = none → H p = none) →
    Hs' a = some (.ins C dx' fs') → RpAll K Hs' (fs'.map (·.2)) ds' → (∀ p, V.ref p ∈ fs'.map (·.2) → V.ref p ∈ fs.map (·.2) ∨ H p = none) → Rp K Hs' v d → Q v H'
def fnM (N : Nat) (S : SDen) : List D → M (D × D) := fun ds n =>
  match S (startD N ds) n with
  | some (.rt (.dict [(d, o)]), n') => some ((d, o), n')
  | some (.nx ρ', n') => match ρ'[0]? with
    | some (some o) => some ((.none, o), n')
    | _ => none
  | _ => none
theorem start_relM {K : PySem.W.Frag} {Hs H : Hp} {N : List Str} {a dx : Addr} {fs : List (Str × V)} {ds es : List D} {ws : List V} (hN : es.length + 1 ≤ N.length) (s : Same Hs H) (ha : Hs a = some (.ins C dx fs)) (r : RpAll K Hs (fs.map (·.2)) ds) (r2 : RpAll K Hs ws es) :
    RelM K C cls a fs [] Hs H Hs H (L2.start N (.ref a :: ws)) (startD N.length (mkOb cls (fs.map (·.1)) ds :: es)) := by
  have hl : ws.length = es.length := r2.length
  refine ⟨s, fun _ _ h _ _ => h, fun _ _ h _ _ => h, s, fun p h => .inl h, fun p h => h, ⟨dx, fs, ds, rfl, ha, r, fun p h => .inl h⟩, rfl, fun i d h0 h => ?_, fun i hi => absurd hi (by simp), ?_⟩
  · unfold startD at h
    unfold L2.start
    by_cases hi : i < es.length + 1
    · rw [List.getElem?_append_left (by simpa using hi), List.getElem?_map] at h
      rw [List.getElem?_append_left (by simpa [hl] using hi), List.getElem?_map]
      obtain ⟨j, rfl⟩ : ∃ j, i = j + 1 := ⟨i - 1, by omega⟩
      rw [List.getElem?_cons_succ] at h ⊢
      cases e : es[j]? with
      | none => rw [e] at h; cases h
      | some d' =>
        rw [e] at h
        cases h
        obtain ⟨v, h1, h2⟩ := r2.getD e
        exact ⟨v, by rw [h1]; rfl, h2⟩
    · rw [List.getElem?_append_right (by simpa using hi), List.getElem?_replicate] at h
      split at h <;> cases h
  · unfold L2.start startD
    simp [hl]
theorem fn_M {P : Program} {w : World} {K : PySem.W.Frag} {mg : Str → Option Value} {base : Heap} {x qual : Str} {st : Stmt} {f : Addr} {fd : FuncData} {N ps : List Str} {k : Nat} {S : SDen} {Fr' : List Nat} (F : Fun K x qual st f fd) (Sc : FnScope N ps (defScope st))
    (body : ∀ (cdv : Value) (A : Around) (outer : List Env) (s : Shared) (H : Hp) (E : XK), Room k (A.deeper (envOfC qual (defScope st) s.heap.objs.size f cdv)) → MSS (cxOf CX0 P w K mg base N qual (defScope st) f cdv A outer s H E).nox C cls [] [] Fr' (defBody st) S) :
    FnOk P w K mg base CX0 (k + 1) f fd ps (spM K C cls ps.length (fnM N.length S)) := by
  refine F.ok Sc (fun vs H Q E h => h.1) (fun cdv A outer s H vs Q E hr h => ?_)
  obtain ⟨hl, a, ws, Hs, dx, fs, ds, es, n, d, o', n', rfl, sm, ha, r, r2, e, q⟩ := h
  refine ⟨_, body cdv A outer s H E hr, ?_⟩
  have hpl : ps.length ≤ N.length := by have := congrArg List.length Sc.pre; rw [List.length_take] at this; omega
  have hdl : es.length + 1 ≤ N.length := by
    have := r2.length
    rw [List.length_cons] at hl
    omega
  have R := start_relM (C := C) (cls := cls) hdl sm ha r r2
  have fin : ∀ (v : V) (σ' : L2.St) (ρ' : DEnv) (Hs' H' : Hp) (d : D) (Fr : List Nat), RelM K C cls a fs Fr Hs H Hs' H' σ' ρ' → ρ'[0]? = some (some o') → (Rp K Hs' v d) → (∀ v dx' fs' ds' Hs' H', o' = mkOb cls (fs'.map (·.1)) ds' → (∀ b o, Hs b = some o → b ≠ a → V.ref b ∉ fs.map (·.2) → Hs' b = some o) → (∀ b o, H b = some o → b ≠ a → V.ref b ∉ fs.map (·.2) → H' b = some o) → Same Hs' H' → (∀ p, Hs' p ≠ none → Hs p ≠ none ∨ H p = none) → (∀ p, H' p = none → H p = none) →
    Hs' a = some (.ins C dx' fs') → RpAll K Hs' (fs'.map (·.2)) ds' → (∀ p, V.ref p ∈ fs'.map (·.2) → V.ref p ∈ fs.map (·.2) ∨ H p = none) → Rp K Hs' v d → Q v H') → Q v H' := by
    intro v σ' ρ' Hs' H' d Fr R' ho rv q
    obtain ⟨dx', fs', ds', k1, k2, k3, k4⟩ := R'.ob
    rw [ho] at k1
    exact q v dx' fs' ds' Hs' H' (Option.some.inj (Option.some.inj k1)) R'.st R'.al R'.sub R'.new R'.dom k2 k3 k4 rv
  unfold fnM at e
  split at e
  · rename_i d1 o1 n1 h1
    cases e
    exact ⟨a, fs, Hs, H, Hs, _, n, _, _, R, h1, d, o', rfl, fun v σ' ρ' Hs' H' R' ho rv => fin v σ' ρ' Hs' H' d [] R' ho rv q⟩
  · rename_i ρ1 n1 h1
    split at e
    · rename_i o1 ho
      cases e
      exact ⟨a, fs, Hs, H, Hs, _, n, _, _, R, h1, fun σ' Hs' H' R' => fin .non σ' ρ1 Hs' H' .none _ R' ho .non q⟩
    · cases e
  · cases e

/-! ### calls -/
structure MetM (P : Program) (w : World) (K : PySem.W.Frag) (mg : Str → Option Value) (base : Heap) (k : Nat) (cls m : Str) (ar : Nat) (mt : List Int → List D → M (D × D)) : Prop where
  ex : ∃ (C f : Addr) (fd : FuncData) (ps : List Str), (∀ ns, FnOk P w K mg base CX0 k f fd ps (spM K C cls ar (mt ns))) ∧ PySem.W.nsIn K mainGlobals cls = some (some (.ref C)) ∧ Cls K C ∧ Meth K C m f ∧ Binds K fd ps []
/-- what is no list stays -/
def keepS (ρ : DEnv) : DEnv := ρ.map fun o => match o with
  | some d => if scal d = true then some d else none
  | none => none
theorem keepS_some {ρ : DEnv} {i : Nat} {d : D} (h : (keepS ρ)[i]? = some (some d)) : ρ[i]? = some (some d) ∧ scal d = true := by
  unfold keepS at h
  rw [List.getElem?_map] at h
  cases e : ρ[i]? with
  | none => rw [e] at h; cases h
  | some o =>
    rw [e] at h
    cases o with
    | none => cases h
    | some d' =>
      have h' : (if scal d' = true then some d' else none) = some d := Option.some.inj h
      split at h'
      · rename_i hs
        cases h'
        exact ⟨rfl, hs⟩
      · cases h'
theorem scal_same {K : PySem.W.Frag} {H H' : Hp} {v : V} {d : D} (h : scal d = true) (r : Rp K H v d) : Rp K H' v d := by
  cases r with
  | non => exact .non
  | bl b => exact .bl b
  | int i => exact .int i
  | str x => exact .str x
  | lst _ _ => cases h
  | tup _ _ => cases h
def sCallM (cls m : Str) (mt : List D → M (D × D)) (A : DEnv → M (List D)) : SDen := fun ρ n => match A ρ n with
  | some (xs, n1) => match ρ[0]? with
    | some (some o) => if isOb cls m o = true ∧ hasDict xs = false then match mt (o :: xs) n1 with
      | some ((_, o'), n2) => some (.nx ((keepS ρ).set 0 (some o')), n2)
      | none => none
      else none
    | _ => none
  | none => none
theorem sCallM_some {m : Str} {mt : List D → M (D × D)} {ρ : DEnv} {n n' : Nat} {o : Out} (e : sCallM cls m mt A ρ n = some (o, n')) : ∃ xs n1 o0 d o1, A ρ n = some (xs, n1) ∧ ρ[0]? = some (some o0) ∧ isOb cls m o0 = true ∧ hasDict xs = false ∧ mt (o0 :: xs) n1 = some ((d, o1), n') ∧ o = .nx ((keepS ρ).set 0 (some o1)) := by
  unfold sCallM at e
  split at e
  · rename_i xs n1 h1
    split at e
    · rename_i o0 h2
      split at e
      · rename_i h3
        split at e
        · rename_i d o1 n2 h4
          cases e
          exact ⟨xs, n1, o0, d, o1, h1, h2, h3.1, h3.2, h4, rfl⟩
        · cases e
      · cases e
    · cases e
  · cases e
theorem isOb_look {K : PySem.W.Frag} {H : Hp} {m : Str} {fs : List (Str × V)} {ds : List D} (r : RpAll K H (fs.map (·.2)) ds) (h : isOb cls m (mkOb cls (fs.map (·.1)) ds) = true) : fs.lookup m = none := by
  have h' : (decide (cls = cls) && (lookF m (kvO (fs.map (·.1)) ds)).isNone) = true := h
  rw [Bool.and_eq_true] at h'
  exact lookF_none r (Option.isNone_iff_eq_none.mp h'.2)
/-- behind a call of such a method -/
theorem RelM.called {K : PySem.W.Frag} {a dx' : Addr} {fs0 fs fs' : List (Str × V)} {ds' : List D} {Hs0 H0 Hs H Hs' H' : Hp} {σ : L2.St} {ρ : DEnv} {o0 o' : D} (R : RelM K C cls a fs0 Fr Hs0 H0 Hs H σ ρ) (k1 : ρ[0]? = some (some o0)) (ek : ∀ p, V.ref p ∈ fs.map (·.2) → V.ref p ∈ fs0.map (·.2) ∨ H0 p = none) (eo : o' = mkOb cls (fs'.map (·.1)) ds')
    (st : ∀ b o, Hs b = some o → b ≠ a → V.ref b ∉ fs.map (·.2) → Hs' b = some o) (al : ∀ b o, H b = some o → b ≠ a → V.ref b ∉ fs.map (·.2) → H' b = some o) (sub : Same Hs' H') (new : ∀ p, Hs' p ≠ none → Hs p ≠ none ∨ H p = none) (dom : ∀ p, H' p = none → H p = none)
    (ia : Hs' a = some (.ins C dx' fs')) (rf : RpAll K Hs' (fs'.map (·.2)) ds') (fl : ∀ p, V.ref p ∈ fs'.map (·.2) → V.ref p ∈ fs.map (·.2) ∨ H p = none) : RelM K C cls a fs0 [] Hs0 H0 Hs' H' σ ((keepS ρ).set 0 (some o')) := by
  have l0 : 0 < (keepS ρ).length := by
    unfold keepS
    rw [List.length_map]
    cases ρ with
    | nil => simp at k1
    | cons _ _ => simp
  refine ⟨R.sub0, fun b o h x y => ?_, fun b o h x y => ?_, sub, fun p h => ?_, fun p h => R.dom p (dom p h), ⟨dx', fs', ds', by rw [List.getElem?_set_self l0, eo], ia, rf, fun p h => ?_⟩, R.me, fun i d z h => ?_, fun i hi => absurd hi (by simp), by rw [List.length_set]; unfold keepS; rw [List.length_map]; exact R.len⟩
  · refine st b o (R.st b o h x y) x fun z => ?_
    rcases ek b z with w | w
    · exact y w
    · rw [R.sub0 _ _ h] at w; cases w
  · refine al b o (R.al b o h x y) x fun z => ?_
    rcases ek b z with w | w
    · exact y w
    · rw [h] at w; cases w
  · rcases new p h with w | w
    · exact R.new p w
    · exact .inr (R.dom p w)
  · rcases fl p h with w | w
    · exact ek p w
    · exact .inr (R.dom p w)
  · rw [List.getElem?_set_ne (Ne.symm z)] at h
    obtain ⟨h1, h2⟩ := keepS_some h
    obtain ⟨v, q1, q2⟩ := R.vars i d z h1
    exact ⟨v, q1, scal_same h2 q2⟩
theorem ms_call {kk ar : Nat} {m os : Str} {po apos cpos : Pos} {mt : List Int → List D → M (D × D)} {fs : List (DEnv → M D)} {pl : Sem Bool} (M : MetM X.prog X.w X.K X.mg X.base kk cls m ar mt) (hC : PySem.W.nsIn X.K mainGlobals cls = some (some (.ref C))) (hr : Room kk X.A) (ha : AD X ns none [] (e :: es) (dAs fs)) (har : fs.length + 1 = ar := by rfl)
    (h0 : X.N[0]? = some os := by rfl) (hv : Vis X.env.scope os := by first | exact .inl rfl | exact .inr (.inl rfl) | exact .inr (.inr rfl)) (hd : (os == ("__debug__" : Str)) = false := by decide) (hcd : (os == ("__classdict__" : Str)) = false := by decide)
    (hst : starEach (e :: es) X.env = (false, eval e X.env) :: starEach es X.env := by rfl) (hpl : (backTo cpos (starEach es X.env)).any (·.1) = false := by rfl)
    (ht : eval (.Call (.Attribute (.Name os po) m apos) (e :: es) [] cpos) X.env = (do
      let ov ← eval (.Name os po) X.env
      standAt apos.atName
      let (f, first) ← holding [ov] (getMethod ov m pl)
      callWith cpos f first (backTo cpos (starEach (e :: es) X.env)) (backToKw cpos (keywordEach [] X.env))) := by rfl)
    (hsw : swapsWith (.Call (.Attribute (.Name os po) m apos) (e :: es) [] cpos) none pos.line X.env = pure false := by rfl) : MS X C cls Fb Fr [] (.Expr (.Call (.Attribute (.Name os po) m apos) (e :: es) [] cpos) pos) (sCallM cls m (mt ns) (dAs fs)) := by
  obtain ⟨C', fa, fd, ps, F, hC', cl, hm, hb⟩ := M.ex
  rw [hC] at hC'
  cases hC'
  refine ps_weak (ps_expr (pe_meth (E := E0) (pe_var h0 hv hd hcd) cl hm (F ns) hr hb .nil pass0 ha hst hpl ht) hsw) fun E σ H q => ?_
  obtain ⟨a, fs0, Hs0, H0, Hs, ρ, n, o, n', R, e, q⟩ := q
  obtain ⟨xs, n1, o0, d, o1, h1, h2, h3, h4, h5, rfl⟩ := sCallM_some e
  obtain ⟨dx, ff, ds, k1, k2, k3, k4⟩ := R.ob
  have k1' := k1
  rw [h2] at k1'
  cases k1'
  refine ⟨.ref a, R.me, a, dx, ff, rfl, R.sub _ _ k2, isOb_look k3 h3, Hs, H, Hs, ρ, n, xs, n1, R.rel hC, h1, fun vs Hs1 H1 e1 c1 r1 => ?_⟩
  have R1 := R.step e1
  show spM X.K C cls ar (mt ns) (V.ref a :: (vs ++ [])) H1 _ E0
  rw [List.append_nil]
  refine ⟨by rw [List.length_cons, (Paired.length r1 : _ = _), dAs_len h1]; exact har, a, vs, Hs1, dx, ff, ds, xs, n1, d, o1, n', rfl, R1.sub, e1.st _ _ k2, RpAll.same e1.st _ _ k3, rpAll_of h4 r1, h5, fun v dx' fs' ds' Hs' H' eo st al sub new dom ia rf fl rv => ?_⟩
  exact q σ Hs' H' (R1.called h2 k4 eo st al sub new dom ia rf fl)
theorem ms_call0 {kk : Nat} {m os : Str} {po apos cpos : Pos} {mt : List Int → List D → M (D × D)} {pl : Sem Bool} (M : MetM X.prog X.w X.K X.mg X.base kk cls m 1 mt) (hC : PySem.W.nsIn X.K mainGlobals cls = some (some (.ref C))) (hr : Room kk X.A)
    (h0 : X.N[0]? = some os := by rfl) (hv : Vis X.env.scope os := by first | exact .inl rfl | exact .inr (.inl rfl) | exact .inr (.inr rfl)) (hd : (os == ("__debug__" : Str)) = false := by decide) (hcd : (os == ("__classdict__" : Str)) = false := by decide)
    (ht : eval (.Call (.Attribute (.Name os po) m apos) [] [] cpos) X.env = (do
      let ov ← eval (.Name os po) X.env
      standAt apos.atName
      let (f, first) ← holding [ov] (getMethod ov m pl)
      callWith cpos f first (backTo cpos (starEach [] X.env)) (backToKw cpos (keywordEach [] X.env))) := by rfl)
    (hsw : swapsWith (.Call (.Attribute (.Name os po) m apos) [] [] cpos) none pos.line X.env = pure false := by rfl) : MS X C cls Fb Fr [] (.Expr (.Call (.Attribute (.Name os po) m apos) [] [] cpos) pos) (sCallM cls m (mt ns) (dAs [])) := by
  obtain ⟨C', fa, fd, ps, F, hC', cl, hm, hb⟩ := M.ex
  rw [hC] at hC'
  cases hC'
  refine ps_weak (ps_expr (pe_meth0 (E := E0) (pe_var h0 hv hd hcd) cl hm (F ns) hr hb .nil pass0 ht) hsw) fun E σ H q => ?_
  obtain ⟨a, fs0, Hs0, H0, Hs, ρ, n, o, n', R, e, q⟩ := q
  obtain ⟨xs, n1, o0, d, o1, h1, h2, h3, h4, h5, rfl⟩ := sCallM_some e
  cases h1
  obtain ⟨dx, ff, ds, k1, k2, k3, k4⟩ := R.ob
  have k1' := k1
  rw [h2] at k1'
  cases k1'
  refine ⟨.ref a, R.me, a, dx, ff, rfl, R.sub _ _ k2, isOb_look k3 h3, ?_⟩
  show spM X.K C cls 1 (mt ns) [V.ref a] H _ E0
  refine ⟨rfl, a, [], Hs, dx, ff, ds, [], _, d, o1, n', rfl, R.sub, k2, k3, .nil, h5, fun v dx' fs' ds' Hs' H' eo st al sub new dom ia rf fl rv => ?_⟩
  exact q σ Hs' H' (R.called h2 k4 eo st al sub new dom ia rf fl)

/-! ### an object made -/
structure MakM (P : Program) (w : World) (K : PySem.W.Frag) (mg : Str → Option Value) (base : Heap) (k : Nat) (cls : Str) (ar : Nat) (mt : List Int → List D → M (D × D)) : Prop where
  ex : ∃ (C f : Addr) (fd : FuncData) (ps : List Str), (∀ ns, FnOk P w K mg base CX0 k f fd ps (spM K C cls ar (mt ns))) ∧ PySem.W.nsIn K mainGlobals cls = some (some (.ref C)) ∧ mg cls = some (.ref C) ∧ Mk K C f ∧ Binds K fd ps []
/-- cls(..) -/
def dMake (cls : Str) (mt : List D → M (D × D)) (A : DEnv → M (List D)) : DEnv → M D := fun ρ n => match A ρ n with
  | some (xs, n1) => if hasDict xs = false then match mt (mkOb cls [] [] :: xs) n1 with
    | some ((.none, o), _) => some (o, n1)
    | _ => none
    else none
  | none => none
theorem ed_make {c : Md} {W : List Nat} {p : Pos} {kk ar : Nat} {mt : List Int → List D → M (D × D)} {fs : List (DEnv → M D)} (M : MakM X.prog X.w X.K X.mg X.base kk cls ar mt) (hr : Room (kk + 1) X.A) (hg : Gl X cls) (ha : AD X ns c W (e :: es) (dAs fs)) (har : fs.length + 1 = ar := by rfl) (hdb : (cls == ("__debug__" : Str)) = false := by decide)
    (he : starEach (e :: es) X.env = (false, eval e X.env) :: starEach es X.env := by rfl) (hpl : (backTo pos (starEach es X.env)).any (·.1) = false := by rfl) : ED X ns c W (.Call (.Name cls p) (e :: es) [] pos) (dMake cls (mt ns) (dAs fs)) := by
  obtain ⟨C, fa, fd, ps, F, hC, hm, mk, hb⟩ := M.ex
  refine pe_weak (pe_make (E := E0) mk (F ns) hr hg hm hb .nil pass0 ha hdb he hpl) fun σ H Q q => ?_
  obtain ⟨Hs0, H0, Hs, ρ, n, z, n', R, e, q⟩ := q
  unfold dMake at e
  split at e
  · rename_i xs n1 h1
    split at e
    · rename_i h2
      split at e
      · rename_i o n2 h3
        cases e
        refine ⟨Hs0, H0, Hs, ρ, n, xs, _, R, h1, fun vs Hs1 H1 e1 c1 r1 => ?_⟩
        intro x dx hx hdx hne
        have R1 := R.step e1 c1
        have hsx : Hs1 x = none := by
          cases q : Hs1 x with
          | none => rfl
          | some o => rw [R1.sub _ _ q] at hx; cases hx
        have hsd : Hs1 dx = none := by
          cases q : Hs1 dx with
          | none => rfl
          | some o => rw [R1.sub _ _ q] at hdx; cases hdx
        show spM X.K C cls ar (mt ns) (V.ref x :: (vs ++ [])) _ _ E0
        rw [List.append_nil]
        refine ⟨by rw [List.length_cons, (Paired.length r1 : _ = _), dAs_len h1]; exact har, x, vs, upd Hs1 x (.ins C dx []), dx, [], [], xs, _, .none, z, n2, rfl, fun b o h => ?_, upd_same, .nil, RpAll.same (same_upd' hsx) _ _ (rpAll_of h2 r1), h3, fun v dx' fs' ds' Hs' H' eo st al sub new dom ia rf fl rv => ⟨by cases rv; rfl, ?_⟩⟩
        · by_cases w : b = x
          · subst w; rw [upd_same] at h ⊢; exact h
          · rw [upd_ne w] at h ⊢
            rw [upd_ne (ne_of_none h hsd)]
            exact R1.sub _ _ h
        · have hst : Same Hs1 Hs' := fun b o h => st b o (by rw [upd_ne (ne_of_none h hsx)]; exact h) (ne_of_none h hsx) (by simp)
          have hal : Same H1 H' := fun b o h => al b o (by rw [upd_ne (ne_of_none h hx), upd_ne (ne_of_none h hdx)]; exact h) (ne_of_none h hx) (by simp)
          have ee : ExtP Hs1 H1 Hs' H' := ⟨hst, hal, sub, fun p h => by
            rcases new p h with w | w
            · by_cases z : p = x
              · subst z; exact .inr hx
              · rw [upd_ne z] at w; exact .inl w
            · right
              by_cases z : p = x
              · subst z; exact hx
              · rw [upd_ne z] at w
                by_cases z2 : p = dx
                · subst z2; exact hdx
                · rw [upd_ne z2] at w; exact w⟩
          exact q (.ref x) Hs' H' (e1.trans c1 ee.ext) (ee.cel c1) (.inr (.inr (.inr (.inl ⟨x, C, dx', cls, fs', ds', rfl, hC, ia, rf, eo⟩))))
      · cases e
    · cases e
  · cases e
end
end DL
/-! DLu: defs with one default. -/
namespace DL
open PySem PySem.Spec PyProof.Rows L2
structure FunV (K : PySem.W.Frag) (x qual : Str) (st : Stmt) (dd : D) (f : Addr) (fd : FuncData) : Prop where
  ex : ∃ (oc : Value) (od : Option Addr) (T : Addr) (kV doc pm : Value) (an : Option Addr) (cdv ct : Value) (osl : Array (Option Value)),
    fd = PySem.W.fnOf x qual (defArgs st) (defBody st) (defScope st) (.ref T) kV doc pm an cdv ct ∧ K.lookup f = some ⟨oc, od, .func fd, osl⟩ ∧ PySem.W.codeIn K cdv qual = true ∧ konst K (.ref T) (.tuple [dd]) = true
  kp : PySem.W.keepIn K (.ref f) = true
theorem funV_mk {K : PySem.W.Frag} {x qual : Str} {st : Stmt} {dd : D} {f : Addr} {oc : Value} {od an : Option Addr} {osl : Array (Option Value)} {dV kV doc pm cdv ct : Value} (l : K.lookup f = some ⟨oc, od, .func (PySem.W.fnOf x qual (defArgs st) (defBody st) (defScope st) dV kV doc pm an cdv ct), osl⟩)
    (c : PySem.W.codeIn K cdv qual = true) (k : PySem.W.keepIn K (.ref f) = true) (d : ∃ T, dV = .ref T ∧ konst K (.ref T) (.tuple [dd]) = true) : FunV K x qual st dd f (PySem.W.fnOf x qual (defArgs st) (defBody st) (defScope st) dV kV doc pm an cdv ct) := by
  obtain ⟨T, rfl, hd⟩ := d
  exact ⟨⟨oc, od, T, kV, doc, pm, an, cdv, ct, osl, rfl, l, c, hd⟩, k⟩
theorem FunV.toD {K : PySem.W.Frag} {x qual : Str} {st : Stmt} {dd : D} {f : Addr} {fd : FuncData} (F : FunV K x qual st dd f fd) : ∃ dv, FunD K x qual (defArgs st) (defBody st) (defScope st) [dv] [] f fd ∧ ∀ H, Rp K H dv dd := by
  obtain ⟨oc, od, T, kV, doc, pm, an, cdv, ct, osl, rfl, l, c, hd⟩ := F.ex
  unfold konst at hd
  split at hd
  · rename_i dd' its n sl hl
    rw [Bool.and_eq_true] at hd
    obtain ⟨vs, r1, r2⟩ := konst_rpAll [dd] its.toList hd.2
    obtain ⟨dv, rfl, rv⟩ : ∃ dv, vs = [dv] ∧ ∀ H, Rp K H dv dd := by
      cases r2 (fun _ => none) with
      | @cons v vs' _ _ a b =>
        cases b
        exact ⟨v, rfl, fun H => by cases r2 H with | cons a b => exact a⟩
    exact ⟨dv, ⟨⟨oc, od, .ref T, kV, doc, pm, an, cdv, ct, osl, rfl, l, c, .inr ⟨by simp, T, _, its.toList, n, rfl, hl, by simp, r1⟩, .inl rfl⟩, F.kp⟩, rv⟩
  · cases hd
theorem fn_DV {P : Program} {w : World} {K : PySem.W.Frag} {mg : Str → Option Value} {base : Heap} {x qual : Str} {st : Stmt} {dd : D} {f : Addr} {fd : FuncData} {N ps : List Str} {k : Nat} {S : SDen} {W' : List Nat} (F : FunV K x qual st dd f fd) (Sc : FnScope N ps (defScope st)) (ns : List Int)
    (body : ∀ (c : Md) (cdv : Value) (A : Around) (outer : List Env) (s : Shared) (H : Hp) (E : XK), Room k (A.deeper (envOfC qual (defScope st) s.heap.objs.size f cdv)) → SSD (cxOf CX0 P w K mg base N qual (defScope st) f cdv A outer s H E).nox ⟨false, fun _ _ _ _ => False⟩ ns c [] [] W' (defBody st) S) :
    FnOk P w K mg base CX0 (k + 1) f fd ps (spD K ns ps.length (fnD N.length S)) := by
  obtain ⟨dv, FD, _⟩ := F.toD
  refine FD.ok Sc (fun vs H Q E h => h.1) (fun cdv A outer s H vs Q E hr h => ?_)
  obtain ⟨hl, c, Hs, ds, n, d, n', sm, cl, hc, r, e, q⟩ := h
  refine ⟨_, (body c cdv A outer s H E hr).nox, ?_⟩
  have hpl : ps.length ≤ N.length := by have := congrArg List.length Sc.pre; rw [List.length_take] at this; omega
  have hdl : ds.length ≤ N.length := by
    have : vs.length = ds.length := Paired.length r
    omega
  unfold fnD at e
  split at e
  · rename_i d1 n1 h1
    cases e
    exact ⟨Hs, H, Hs, _, n, _, _, start_rel hdl sm cl hc r, h1, q⟩
  · rename_i ρ1 n1 h1
    cases e
    exact ⟨Hs, H, Hs, _, n, _, _, start_rel hdl sm cl hc r, h1, fun σ' Hs' H' _ R => q .non _ H' (R.frz [] (fun _ h => nomatch h)).ext R.cel (.inl .non)⟩
  · cases e
/-- a def called without its last parameter, whose default is dd -/
structure CalV (P : Program) (w : World) (K : PySem.W.Frag) (mg : Str → Option Value) (base : Heap) (k : Nat) (x : Str) (ar : Nat) (dd : D) (m : List Int → List D → M D) : Prop where
  ex : ∃ (f : Addr) (fd : FuncData) (ps : List Str) (dv : V) (ds : List Value), (∀ ns, FnOk P w K mg base CX0 k f fd ps (spD K ns (ar + 1) (m ns))) ∧ mg x = some (.ref f) ∧ PySem.W.keepIn K (.ref f) = true ∧ Binds K fd ps ds ∧ Vals [dv] ds ∧ ∀ H, Rp K H dv dd
theorem calV_mk {P : Program} {w : World} {K : PySem.W.Frag} {mg : Str → Option Value} {base : Heap} {k ar : Nat} {x qual : Str} {st : Stmt} {dd : D} {f : Addr} {fd : FuncData} {ps : List Str} {m : List Int → List D → M D} (F : FunV K x qual st dd f fd) (g : mg x = some (.ref f)) (G : ∀ ns, FnOk P w K mg base CX0 k f fd ps (spD K ns (ar + 1) (m ns))) (hn : ar + 1 = ps.length)
    (h : ∀ (T : Addr) (kV doc pm : Value) (an : Option Addr) (cdv ct : Value) (us its : List Value), us.length = ar → its.length = 1 →
      ∃ k, bindArgs (PySem.W.fnOf x qual (defArgs st) (defBody st) (defScope st) (.ref T) kV doc pm an cdv ct) ⟨us, []⟩ = seqItems? (.ref T) >>= k ∧ k (some its.toArray) = pure (ps.zip (us ++ its.drop 0))) : CalV P w K mg base k x ar dd m := by
  obtain ⟨dv, FD, rv⟩ := F.toD
  obtain ⟨ds, v1, b⟩ := FD.binds1 (ps := ps) ar 0 (by simp) (by simpa using hn) h
  exact ⟨f, fd, ps, dv, ds, G, g, F.kp, b, v1, rv⟩
theorem calD_mkV {P : Program} {w : World} {K : PySem.W.Frag} {mg : Str → Option Value} {base : Heap} {k ar : Nat} {x qual : Str} {st : Stmt} {dd : D} {f : Addr} {fd : FuncData} {ps : List Str} {m : List Int → List D → M D} (F : FunV K x qual st dd f fd) (g : mg x = some (.ref f)) (G : ∀ ns, FnOk P w K mg base CX0 k f fd ps (spD K ns ar (m ns))) (hn : ar = ps.length)
    (h : ∀ (T : Addr) (kV doc pm : Value) (an : Option Addr) (cdv ct : Value) (us its : List Value), us.length = ar → its.length = 1 →
      ∃ k, bindArgs (PySem.W.fnOf x qual (defArgs st) (defBody st) (defScope st) (.ref T) kV doc pm an cdv ct) ⟨us, []⟩ = seqItems? (.ref T) >>= k ∧ k (some its.toArray) = pure (ps.zip (us ++ its.drop 1))) : CalD P w K mg base k x ar m := by
  obtain ⟨dv, FD, rv⟩ := F.toD
  obtain ⟨ds, v1, b⟩ := FD.binds1 (ps := ps) ar 1 (by simp) (by simpa using hn) h
  cases v1
  exact ⟨f, fd, ps, G, g, F.kp, b⟩
section
variable {X : Cx} {ns : List Int} {c : Md} {W : List Nat} {e : Expr} {es : List Expr} {pos p : Pos} {x : Str} {A : DEnv → M (List D)}
def dCallV (m : List D → M D) (dd : D) (A : DEnv → M (List D)) : DEnv → M D := dCall (fun ds => m (ds ++ [dd])) A
theorem ed_calV {kk ar : Nat} {dd : D} {m : List Int → List D → M D} {fs : List (DEnv → M D)} (C : CalV X.prog X.w X.K X.mg X.base kk x ar dd m) (hr : Room kk X.A) (hg : Gl X x) (ha : AD X ns c W (e :: es) (dAs fs)) (har : fs.length = ar := by rfl) (hdb : (x == ("__debug__" : Str)) = false := by decide)
    (he : starEach (e :: es) X.env = (false, eval e X.env) :: starEach es X.env := by rfl) (hpl : (backTo pos (starEach es X.env)).any (·.1) = false := by rfl) : ED X ns c W (.Call (.Name x p) (e :: es) [] pos) (dCallV (m ns) dd (dAs fs)) := by
  obtain ⟨f, fd, ps, dv, ds, F, hm, hk, hb, hv, rv⟩ := C.ex
  refine pe_weak (pe_call (E := E0) (F ns) hr hg hm hk hb hv pass0 ha hdb he hpl) fun σ H Q q => ?_
  obtain ⟨Hs0, H0, Hs, ρ, n, z, n', R, e, q⟩ := q
  unfold dCallV at e
  obtain ⟨xs, n1, h1, h2⟩ := dCall_some e
  refine ⟨Hs0, H0, Hs, ρ, n, xs, n1, R, h1, fun vs Hs1 H1 e1 c1 r1 => ?_⟩
  have R1 := R.step e1 c1
  show spD X.K ns (ar + 1) (m ns) (vs ++ [dv]) H1 Q E0
  have pa : ∀ {vs : List V} {xs : List D}, Paired (SRep X.K ns c Hs1) vs xs → Paired (SRep X.K ns c Hs1) (vs ++ [dv]) (xs ++ [dd]) := by
    intro vs xs r
    induction r with
    | nil => exact .cons (.inl (rv _)) .nil
    | cons a b ih => exact .cons a ih
  refine ⟨by rw [List.length_append, (Paired.length r1 : _ = _), dAs_len h1, har]; rfl, c, Hs1, xs ++ [dd], n1, z, n', R1.sub, c1, R1.hc, pa r1, h2, fun v Hs2 H2 e2 c2 r2 => q v Hs2 H2 (e1.trans c1 e2) c2 r2⟩
end
end DL
/-! DLv: zip of a tuple with a list. -/
namespace DL
open PySem PySem.Spec PyProof.Rows L2

/-- the tuple at a and the list at b, their items in new pairs -/
def ItzM (K : PySem.W.Frag) (a b : Addr) : It :=
  ⟨fun i H => ∃ (us ws : List V) (x y : V), SqT K H a us ∧ SqL K H b ws ∧ us[i]? = some x ∧ ws[i]? = some y,
   fun i H v H' => ∃ T x y, v = .ref T ∧ H T = none ∧ H' = upd H T (.tup [x, y]) ∧ (∀ us, SqT K H a us → us[i]? = some x) ∧ ∀ ws, SqL K H b ws → ws[i]? = some y,
   fun i H => ∃ us ws : List V, SqT K H a us ∧ SqL K H b ws ∧ i = min us.length ws.length⟩
/-- the five cells of a zip at N .. N + 4, over what stood below N -/
def MCells (N : Nat) : List Addr := [N + 4, N + 2, N + 3, N, N + 1]
theorem mcells {N c : Nat} : c ∈ MCells N ↔ c = N + 4 ∨ c = N + 2 ∨ c = N + 3 ∨ c = N ∨ c = N + 1 := by
  simp [MCells]
theorem turn_zipM {P : Program} {w : World} {K : PySem.W.Frag} {elts : List Expr} {kk : Nat} {tpos : Pos} {a b : Addr} {N : Nat} (ha : a < N) (hb : b < N) :
    Turn P w K (.Tuple elts kk tpos) (ItzM K a b) (MCells N) (N + 4 : Nat) (fun i h => IsZip h (N + 4 : Nat) (N + 2 : Nat) (N + 3 : Nat) .none ∧ IsTupOf2 h (N + 2 : Nat) (.ref N) (.ref (N + 1 : Nat)) ∧ (∃ x y, IsTupOf2 h (N + 3 : Nat) x y) ∧ h.IsTupleIter N a i ∧ h.IsListIter (N + 1 : Nat) b i) where
  mem := mcells.2 (.inl rfl)
  obj := fun i h st c hc => by
    obtain ⟨hz, hTI, ⟨x, y, hTO⟩, ⟨o1, e1, _, d1⟩, ⟨o2, e2, _, d2⟩⟩ := st
    rcases mcells.1 hc with q | q | q | q | q <;> subst q
    · exact ⟨_, hz, fun v q => nomatch q⟩
    · exact ⟨_, hTI, fun v q => nomatch q⟩
    · exact ⟨_, hTO, fun v q => nomatch q⟩
    · exact ⟨o1, e1, fun v q => by rw [d1] at q; cases q⟩
    · exact ⟨o2, e2, fun v q => by rw [d2] at q; cases q⟩
  keep := fun i h h' st k => by
    obtain ⟨hz, hTI, ⟨x, y, hTO⟩, h1, h2⟩ := st
    exact ⟨k _ (mcells.2 (.inl rfl)) _ hz, k _ (mcells.2 (.inr (.inl rfl))) _ hTI, ⟨x, y, k _ (mcells.2 (.inr (.inr (.inl rfl)))) _ hTO⟩, h1.at fun o q => k _ (mcells.2 (.inr (.inr (.inr (.inl rfl))))) o q, h2.at fun o q => k _ (mcells.2 (.inr (.inr (.inr (.inr rfl))))) o q⟩
  item := by
    intro X hP hw hK hc i pins s σ H E I hf st hg
    subst hP hw hK
    obtain ⟨hz, hTI, ⟨x0, y0, hTO⟩, h1, h2⟩ := st
    obtain ⟨us, ws, x, y, hqu, hqw, hx, hy⟩ := hg
    obtain ⟨its, rv, p, _⟩ := I.tuple hqu
    obtain ⟨its2, rv2, p2, _⟩ := I.list hqw
    obtain ⟨u, hu, ru⟩ := rv.get hx
    obtain ⟨u2, hu2, ru2⟩ := rv2.get hy
    have hzl : N + 4 < s.heap.objs.size := Heap.lt_size hz
    have S := zip_sep2 (N := N) (fp1 := [a]) (fp2 := [b]) (by simpa using ha) (by simpa using hb)
    have D1 := Draws.tuple (prog := X.prog) (w := X.w) (A := X.A.in1) (I.ok.hd hc) N a (Nat.ne_of_lt ha) its.toArray
    have D2 := Draws.list (prog := X.prog) (w := X.w) (A := X.A.in1) (I.ok.hd hc) (N + 1 : Nat) b (Nat.ne_of_lt (Nat.lt_succ_of_lt hb)) its2.toArray
    have l1 : i < its.toArray.size := by
      have := (List.getElem?_eq_some_iff.mp hu).1
      simpa using this
    have l2 : i < its2.toArray.size := by
      have := (List.getElem?_eq_some_iff.mp hu2).1
      simpa using this
    refine wpAny_pyNext_zipD2_item S D1 D2 hz hTI hTO ⟨h1, p⟩ ⟨h2, p2.isList⟩ l1 l2 fun v1 v2 h' tk y1 y2 z' TO' g1 g2 hT hsz hk => ?_
    have e1 : v1 = u := Option.some.inj (y1.symm.trans (by simpa using hu))
    have e2 : v2 = u2 := Option.some.inj (y2.symm.trans (by simpa using hu2))
    subst e1 e2
    refine ⟨_, rfl, wpAny_letOwnedTupleGo_zip (s := { s with heap := h', toks := tk }) z' fun h'' z'' sb => ?_⟩
    have hT2 : h''.get? s.heap.objs.size = some { cls := .type "tuple", data := .seq #[v1, v2] } := (sb.2 _ (Nat.ne_of_gt hzl)).trans hT
    have kk : ∀ c o, c ∉ MCells N → s.heap.get? c = some o → h''.get? c = some o := fun c o hn q =>
      (sb.2 c (fun e => hn (mcells.2 (.inl e)))).trans (hk c o (fun e => hn (mcells.2 (.inl e))) (fun e => hn (mcells.2 (.inr (.inr (.inl e))))) (fun e => hn (mcells.2 (.inr (.inr (.inr (.inl e)))))) (fun e => hn (mcells.2 (.inr (.inr (.inr (.inr e)))))) q)
    have nw : ObjOk X.prog X.w (upd H s.heap.objs.size (.tup [x, y])) h'' s.heap.objs.size (.tup [x, y]) :=
      ⟨by show 2 ≤ sizeLine; decide, [v1, v2], .cons ru (.cons ru2 .nil), ⟨_, hT2, rfl, _, rfl⟩⟩
    have I1 : Inv X pins σ (upd H s.heap.objs.size (.tup [x, y])) { s with heap := h'', toks := tk } :=
      I.turnedNew (ch := MCells N) kk hf (Nat.le_refl _) nw
    have ne3 : (N + 3 : Nat) ≠ N + 4 := by omega
    have ne2 : (N + 2 : Nat) ≠ N + 4 := by omega
    refine ⟨.ref s.heap.objs.size, _, I1, rfl, ⟨_, x, y, rfl, I.hok.fresh (Nat.le_refl _), rfl, fun l hl => by rw [I.tuple_inj hl hqu]; exact hx, fun l hl => by rw [I.list_inj hl hqw]; exact hy⟩, ⟨z'', ?_, ⟨v1, v2, ?_⟩, ?_, ?_⟩, fun c hcm => ?_⟩
    · exact (sb.2 _ ne2).trans (hk _ _ ne2 (show (N + 2 : Nat) ≠ N + 3 by omega) (show (N + 2 : Nat) ≠ N by omega) (show (N + 2 : Nat) ≠ N + 1 by omega) hTI)
    · exact (sb.2 _ ne3).trans TO'
    · exact g1.1.at fun o q => (sb.2 _ (show (N : Nat) ≠ N + 4 by omega)).trans q
    · exact g2.1.at fun o q => (sb.2 _ (show (N + 1 : Nat) ≠ N + 4 by omega)).trans q
    · have hlt : c < s.heap.objs.size := by
        have hN : ∀ j : Nat, j ≤ 4 → (N + j : Nat) < s.heap.objs.size := fun j hj => Nat.lt_of_le_of_lt (Nat.add_le_add_left hj N) hzl
        rcases mcells.1 hcm with q | q | q | q | q <;> subst q
        · exact hN 4 (by decide)
        · exact hN 2 (by decide)
        · exact hN 3 (by decide)
        · exact hN 0 (by decide)
        · exact hN 1 (by decide)
      rw [upd_ne (Nat.ne_of_lt hlt)]
      exact (hf c hcm).1
  done := by
    intro X hP hw hK hc i pins s σ H E I hf st hg
    subst hP hw hK
    obtain ⟨hz, hTI, ⟨x0, y0, hTO⟩, h1, h2⟩ := st
    obtain ⟨us, ws, hqu, hqw, hend⟩ := hg
    obtain ⟨its, rv, p, _⟩ := I.tuple hqu
    obtain ⟨its2, rv2, p2, _⟩ := I.list hqw
    have l1 : us.length = its.toArray.size := by simp [rv.length]
    have l2 : ws.length = its2.toArray.size := by simp [rv2.length]
    have S := zip_sep2 (N := N) (fp1 := [a]) (fp2 := [b]) (by simpa using ha) (by simpa using hb)
    have D1 := Draws.tuple (prog := X.prog) (w := X.w) (A := X.A.in1) (I.ok.hd hc) N a (Nat.ne_of_lt ha) its.toArray
    have D2 := Draws.list (prog := X.prog) (w := X.w) (A := X.A.in1) (I.ok.hd hc) (N + 1 : Nat) b (Nat.ne_of_lt (Nat.lt_succ_of_lt hb)) its2.toArray
    refine wpAny_pyNext_zipD2_end (i := i) S D1 D2 hz hTI hTO ⟨h1, p⟩ ⟨h2, p2.isList⟩ (by omega) (by omega) (by omega) fun h' tk hk => ⟨rfl, ?_⟩
    exact I.turnedL (ch := MCells N) (fun c o hn q => hk c o (fun e => hn (mcells.2 (.inl e))) (fun e => hn (mcells.2 (.inr (.inr (.inl e))))) (fun e => hn (mcells.2 (.inr (.inr (.inr (.inl e)))))) (fun e => hn (mcells.2 (.inr (.inr (.inr (.inr e)))))) q) hf
  self := fun A i s Q E st h => wpAny_pyIter_zip st.1 h

def iZipM (K : PySem.W.Frag) (ta : TA) : TI := fun σ H R => ta σ H fun vs H1 => ∃ a b us ws, vs = [.ref a, .ref b] ∧ SqT K H1 a us ∧ SqL K H1 b ws ∧ R (ItzM K a b) H1
theorem pi_zipM {X : Cx} {e e2 : Expr} {ta : TA} {p pos tpos : Pos} {elts : List Expr} {kk : Nat} (hg : Gl X "zip") (hm : X.mg "zip" = none) (ha : PA X [e, e2] ta)
    (hs : starEach [e, e2] X.env = (false, eval e X.env) :: starEach [e2] X.env := by rfl) (hpl : (backTo pos (starEach [e2] X.env)).any (·.1) = false := by rfl) :
    PI X (.Tuple elts kk tpos) (.Call (.Name "zip" p) [e, e2] [] pos) (iZipM X.K ta) := by
  refine ⟨fun pins s σ H R I h => ?_⟩
  refine Call_ (ld_blt I hg hm boot_zip (callWith_type1 (thn (ha.run pos pins s σ H _ I h) fun us s1 ⟨vs, H1, I1, r1, q1⟩ => ?_) hs hpl))
  obtain ⟨a, b, xs, ys, ex, hqx, hqy, q⟩ := q1
  subst ex
  obtain ⟨r, r', rfl⟩ : ∃ v v', us = [v, v'] := by
    cases r1 with
    | cons _ rr =>
      cases rr with
      | cons _ rr =>
        cases rr
        exact ⟨_, _, rfl⟩
  cases r1 with
  | cons w1 rr =>
    cases rr with
    | cons w2 rr =>
      cases w1
      cases w2
      obtain ⟨its, rv, p1, _⟩ := I1.tuple hqx
      obtain ⟨its2, rv2, p2, _⟩ := I1.list hqy
      have la : a < s1.heap.objs.size := by
        obtain ⟨o, ho, _⟩ := id p1
        exact Heap.lt_size ho
      refine zip_begins2 (begins_tuple a its.toArray) (begins_list b its2.toArray) p1 p2.isList fun h' hz hTI hTO h1 h2 hsz hk => wpAny_pyIter_zip hz ?_
      have I2 : Inv X pins σ H1 { s1 with heap := h' } := I1.kept (t' := s1.toks) hk
      refine ⟨_, MCells s1.heap.objs.size, _, _, H1, rfl, I2, turn_zipM la p2.lt, ⟨hz, hTI, ⟨_, _, hTO⟩, ⟨_, h1, rfl, rfl⟩, ⟨_, h2, rfl, rfl⟩⟩, fun c hc => ?_, q⟩
      have hle : s1.heap.objs.size ≤ c := by
        rcases mcells.1 hc with q | q | q | q | q <;> subst q
        · exact Nat.le_add_right _ 4
        · exact Nat.le_add_right _ 2
        · exact Nat.le_add_right _ 3
        · exact Nat.le_refl _
        · exact Nat.le_add_right _ 1
      exact I1.fpOk hle (I1.hok.fresh hle)
theorem walk_zipM {K : PySem.W.Frag} {a b : Addr} {us ws : List V} {n : Nat} (hn : n = min us.length ws.length) : Walk (ItzM K a b) n (fun H => SqT K H a us ∧ SqL K H b ws) (YPair (fun i => us[i]?) (fun i => ws[i]?)) := by
  subst hn
  refine ⟨fun i _ hi q => ?_, fun _ q => ⟨us, ws, q.1, q.2, rfl⟩, fun i H v H' _ q y => ?_⟩
  · have h1 : i < us.length := by omega
    have h2 : i < ws.length := by omega
    exact ⟨us, ws, us[i], ws[i], q.1, q.2, by simp [h1], by simp [h2]⟩
  · obtain ⟨T, x, z, h1, h2, h3, h4, h5⟩ := y
    exact ⟨T, x, z, h1, h2, h3, h4 us q.1, h5 ws q.2⟩
def iZm (A : DEnv → M (List D)) : DEnv → M (List D) := fun ρ n =>
  match A ρ n with
  | some ([.tuple xs, .list ys], n') => some (zipD xs ys, n')
  | _ => none
theorem id_zipM {X : Cx} {ns : List Int} {c : Md} {W : List Nat} {a b : Expr} {A : DEnv → M (List D)} {p pos : Pos} {elts : List Expr} {kk : Nat} {tpos : Pos} (hg : Gl X "zip") (hm : X.mg "zip" = none) (ha : AD X ns c W [a, b] A)
    (hs : starEach [a, b] X.env = (false, eval a X.env) :: starEach [b] X.env := by rfl) (hpl : (backTo pos (starEach [b] X.env)).any (·.1) = false := by rfl) : ID X ns c W (.Tuple elts kk tpos) (.Call (.Name "zip" p) [a, b] [] pos) (iZm A) := by
  refine pi_weak (pi_zipM hg hm ha hs hpl) fun σ H R q => ?_
  obtain ⟨Hs0, H0, Hs, ρ, n, ds, n', r, e, q⟩ := q
  unfold iZm at e
  split at e
  · rename_i d1 d2 n1 h1
    cases e
    refine ⟨Hs0, H0, Hs, ρ, n, _, _, r, h1, fun vs Hs' H' e1 c1 r1 => ?_⟩
    obtain ⟨v, w, rfl, rv, rw'⟩ := pr2 r1
    obtain ⟨a, xs, rfl, h2, r2⟩ := rv.tuple
    obtain ⟨b, ys, rfl, h3, r3⟩ := rw'.list
    have sb := (r.step e1 c1).sub
    refine ⟨a, b, xs, ys, rfl, Same.seqT sb h2, SqL.of (sb _ _ h3), q _ Hs' H' e1 c1 (walkD_pair (walk_zipM rfl) (by rw [zipD_len, r2.length, r3.length]) (fun H s => ⟨Same.seqT s h2, SqL.of (s _ _ h3)⟩) fun i d hd => ?_)⟩
    obtain ⟨x, y, hx, hy, rfl⟩ := zipD_get hd
    refine ⟨_, _, rfl, fun x' e => ?_, fun y e => ?_⟩
    · obtain ⟨d', h4, h5⟩ := r2.get e
      rw [hx] at h4
      cases h4
      exact h5
    · obtain ⟨d', h4, h5⟩ := r3.get e
      rw [hy] at h4
      cases h4
      exact h5
  · cases e
section
variable {X : Cx} {ns : List Int} {c : Md} {W : List Nat} {fr : FR} {Wb : List Nat} {tg tg1 iter iter1 e : Expr} {pos : Pos} {f : DEnv → M D} {t t1 : DEnv → M Bool}
theorem sd_setLc2 (i : Nat) {y : Str} {py : Pos} {spos : Pos} {ifs ifs1 : List Expr} {scope : Scope} {own : List (Str × Nat)} {ts ts1 vs1 : List Nat} {g g1 : TgD} {it it1 : DEnv → M (List D)} (hc : X.calm = true) (hN : X.N.Nodup) (hi : ID X ns c W tg iter it) (ok : BlkOk X.N X.env.scope scope own) (hv1 : ∀ i ∈ vs1, i ∈ own.map (·.2))
    (hg : ∀ (s : Shared) (H : Hp) (C : Addr) (cl : List (Str × Addr)) (fp : List Addr), GD (X.blk s H scope (compEnvC scope cl C X.env) fp) ns c W ts tg g) (ht : ∀ (s : Shared) (H : Hp) (C : Addr) (cl : List (Str × Addr)) (fp : List Addr), TsD (X.blk s H scope (compEnvC scope cl C X.env) fp) ns c W ifs t)
    (hi1 : ∀ (s : Shared) (H : Hp) (C : Addr) (cl : List (Str × Addr)) (fp : List Addr), ID (X.blk s H scope (compEnvC scope cl C X.env) fp) ns c W tg1 iter1 it1)
    (hg1 : ∀ (s : Shared) (H : Hp) (C : Addr) (cl : List (Str × Addr)) (fp : List Addr), GD (X.blk s H scope (compEnvC scope cl C X.env) fp) ns c W ts1 tg1 g1) (ht1 : ∀ (s : Shared) (H : Hp) (C : Addr) (cl : List (Str × Addr)) (fp : List Addr), TsD (X.blk s H scope (compEnvC scope cl C X.env) fp) ns c W ifs1 t1)
    (he : ∀ (s : Shared) (H : Hp) (C : Addr) (cl : List (Str × Addr)) (fp : List Addr), ED (X.blk s H scope (compEnvC scope cl C X.env) fp) ns c W e f) (hy : X.N[i]? = some y := by rfl) (hyl : X.env.scope.names.lookup y = some .local := by rfl)
    (hsw : swapsWith (.ListComp e [⟨tg, iter, ifs, 0⟩, ⟨tg1, iter1, ifs1, 0⟩] scope pos) (some (.Name y py)) spos.line X.env = pure true := by exact sw_true rfl rfl rfl (by decide +kernel))
    (hts : ∀ j ∈ ts, j ∈ own.map (·.2) := by decide) (hts1 : ∀ j ∈ ts1, j ∈ vs1 := by decide) (hvW : ∀ i ∈ own.map (·.2), i ∉ W := by decide) (hiW : i ∉ W := by decide) (hs : ∀ x, foldedSetIterable iter X.env x = pure x := by intro _; rfl) (hs1 : ∀ env x, foldedSetIterable iter1 env x = pure x := by intro _ _; rfl) :
    SD X fr ns c Wb W W (.Assign [.Name y py] (.ListComp e [⟨tg, iter, ifs, 0⟩, ⟨tg1, iter1, ifs1, 0⟩] scope pos) spos) (sSet i (dLc2 it (own.map (·.2)) g t it1 vs1 g1 t1 f)) := by
  refine ps_weak (ps_setLc2 (wi1 := tDI X.K ns c W it1) (g := tDG X.K ns c W ts g) (tt := tDT X.K ns c W t) (g1 := tDG X.K ns c W ts1 g1) (tt1 := tDT X.K ns c W t1) (te := tD X.K ns c W f) hc hN hy hyl hsw hi ok hv1 hg ht hi1 hg1 ht1 he hs hs1) fun E σ H q => ?_
  obtain ⟨Hs0, H0, Hs, ρ, n, o, n', R, e, q⟩ := q
  unfold sSet at e
  split at e
  · rename_i d n1 h1
    cases e
    rw [← dLc2_lst] at h1
    unfold fLst at h1
    split at h1
    · rename_i ds n2 h2
      cases h1
      refine tLc2D hts hts1 hv1 hvW σ H _ ⟨Hs0, H0, Hs, ρ, n, ds, _, R, h2, fun p vs Hs' H' e1 c1 p0 p1 p2 r1 => ?_⟩
      have ee := e1.adopt p0 p1 p2
      exact q _ _ H' ee.st ((R.step ee c1).store1 hiW (.inl (.lst upd_same (RpAll.same (same_upd' p1) _ _ r1))))
    · cases h1
  · cases e
end
end DL
/-! DLw: < and > of nested data, in over nested data, max of a list of data, min with a default, [1::-1], lcm of two, truth of lists and tuples, max of four. -/
namespace DL
open PySem PySem.Spec PyProof.Rows L2
open PySem.W (alike dataLt lt_data gt_data le_data ge_data minD maxD AlikeAll readsAll_len readsAll_atA argBest_fold iter_listW iter_tupleW cmpIn_gt cmpIn_lt moved_old reads_keeps)
theorem un65 {k : Nat} {A : Around} (r : Room k A) : A.units + 65 < cLine := by have := r.un; omega
/-! ### order of data -/
def dCmpOk (x y : D) : Bool := alike x y && SeqAt.shaped x && SeqAt.shaped y && noDict x && noDict y && !isNon x
def hLtD (x y : D) : Option D := if dCmpOk x y = true then some (.bool (dataLt x y)) else none
def hGtD (x y : D) : Option D := if dCmpOk x y = true then some (.bool (dataLt y x)) else none
def rCmpD (K : PySem.W.Frag) (h : D → D → Bool) : R2 := fun x y H Q => ∃ d e, Dp K H x d ∧ Dp K H y e ∧ alike d e = true ∧ d ≠ .none ∧ SeqAt.shaped d = true ∧ SeqAt.shaped e = true ∧ Q (.bl (h d e)) H
theorem room_min {A : Around} {d e : D} (h : SeqAt.shaped d = true) (hu : A.units + 64 < cLine) : A.units + min d.depth e.depth < cLine := by
  have h1 := SeqAt.depth_of_shaped h
  have h2 : min d.depth e.depth ≤ d.depth := Nat.min_le_left _ _
  omega
section
variable {X : Cx}
theorem op_ltD (hu : X.A.units + 64 < cLine) : OpR X (compareOp .Lt) (rCmpD X.K fun d e => dataLt d e) := by
  intro pins s σ H x y v u Q I rx ry h
  obtain ⟨d, e, hd, he, al, hn, sd, se, q⟩ := h
  obtain ⟨as, r1⟩ := Dp.reads I d x v hd rx
  obtain ⟨bs, r2⟩ := Dp.reads I e y u he ry
  exact lt_data r1 r2 al hn (room_min sd hu) ⟨.bl _, H, I, rfl, q⟩
theorem op_gtD (hu : X.A.units + 64 < cLine) : OpR X (compareOp .Gt) (rCmpD X.K fun d e => dataLt e d) := by
  intro pins s σ H x y v u Q I rx ry h
  obtain ⟨d, e, hd, he, al, hn, sd, se, q⟩ := h
  obtain ⟨as, r1⟩ := Dp.reads I d x v hd rx
  obtain ⟨bs, r2⟩ := Dp.reads I e y u he ry
  exact gt_data r1 r2 al hn (room_min sd hu) ⟨.bl _, H, I, rfl, q⟩
end
theorem dCmpOk_of {x y : D} (h : dCmpOk x y = true) : alike x y = true ∧ SeqAt.shaped x = true ∧ SeqAt.shaped y = true ∧ noDict x = true ∧ noDict y = true ∧ x ≠ .none := by
  unfold dCmpOk at h
  simp only [Bool.and_eq_true, Bool.not_eq_true'] at h
  obtain ⟨⟨⟨⟨⟨p1, p2⟩, p3⟩, p4⟩, p5⟩, p6⟩ := h
  exact ⟨p1, p2, p3, p4, p5, fun z => by subst z; cases p6⟩
section
variable {K : PySem.W.Frag}
theorem r2_ltD : R2D K (rCmpD K fun d e => dataLt d e) hLtD := by
  intro ns c Hs H x y d e z Q s rx ry hz q
  obtain ⟨p, rfl⟩ := Option.some_of_if hz
  obtain ⟨p1, p2, p3, p4, p5, p6⟩ := dCmpOk_of p
  exact ⟨d, e, (Rp.same s _ _ (rx.rp (noDict_of p4))).dp, (Rp.same s _ _ (ry.rp (noDict_of p5))).dp, p1, p6, p2, p3, q _ Hs H (ExtP.refl s) (.bl _)⟩
theorem r2_gtD : R2D K (rCmpD K fun d e => dataLt e d) hGtD := by
  intro ns c Hs H x y d e z Q s rx ry hz q
  obtain ⟨p, rfl⟩ := Option.some_of_if hz
  obtain ⟨p1, p2, p3, p4, p5, p6⟩ := dCmpOk_of p
  exact ⟨d, e, (Rp.same s _ _ (rx.rp (noDict_of p4))).dp, (Rp.same s _ _ (ry.rp (noDict_of p5))).dp, p1, p6, p2, p3, q _ Hs H (ExtP.refl s) (.bl _)⟩
end
theorem cd_ltD {X : Cx} (hu : X.A.units + 64 < cLine) : CmpD X .Lt hLtD := ⟨_, op_ltD hu, r2_ltD⟩
theorem cd_gtD {X : Cx} (hu : X.A.units + 64 < cLine) : CmpD X .Gt hGtD := ⟨_, op_gtD hu, r2_gtD⟩
/-! ### in over nested data -/
def inOk (x : D) (c : D) : Bool := SeqAt.shaped x && noDict x && SeqAt.shaped c && noDict c
def hInD : D → D → Option D
  | x, .list xs => if inOk x (.list xs) = true then some (.bool (xs.any fun y => PyData.eqv y x)) else none
  | x, .tuple xs => if inOk x (.tuple xs) = true then some (.bool (xs.any fun y => PyData.eqv y x)) else none
  | _, _ => none
def hNotInD : D → D → Option D
  | x, .list xs => if inOk x (.list xs) = true then some (.bool (!xs.any fun y => PyData.eqv y x)) else none
  | x, .tuple xs => if inOk x (.tuple xs) = true then some (.bool (!xs.any fun y => PyData.eqv y x)) else none
  | _, _ => none
def rInD (K : PySem.W.Frag) (b : Bool) : R2 := fun x y H Q => ∃ d ds, Dp K H x d ∧ (Dp K H y (.list ds) ∧ SeqAt.shaped (.list ds) = true ∨ Dp K H y (.tuple ds) ∧ SeqAt.shaped (.tuple ds) = true) ∧ SeqAt.shaped d = true ∧ Q (.bl (xor b (ds.any fun y => PyData.eqv y d))) H
section
variable {X : Cx}
theorem op_inD (hu : X.A.units + 65 < cLine) : OpR X (compareOp .In) (rInD X.K false) := by
  intro pins s σ H x y v u Q I rx ry h
  obtain ⟨d, ds, hd, hc, sd, q⟩ := h
  obtain ⟨as, r1⟩ := Dp.reads I d x v hd rx
  rw [Bool.false_xor] at q
  rcases hc with ⟨hc, sc⟩ | ⟨hc, sc⟩
  · obtain ⟨bs, r2⟩ := Dp.reads I _ y u hc ry
    exact SeqAt.in_list_reads r2 r1 (SeqAt.canLay_of_shaped sc) (SeqAt.canLay_of_shaped sd) (room_in_shaped sd hu) ⟨.bl _, H, I, rfl, q⟩
  · obtain ⟨bs, r2⟩ := Dp.reads I _ y u hc ry
    exact SeqAt.in_tuple_reads r2 r1 (SeqAt.canLay_of_shaped sc) (SeqAt.canLay_of_shaped sd) (room_in_shaped sd hu) ⟨.bl _, H, I, rfl, q⟩
theorem op_notInD (hu : X.A.units + 65 < cLine) : OpR X (compareOp .NotIn) (rInD X.K true) := by
  intro pins s σ H x y v u Q I rx ry h
  obtain ⟨d, ds, hd, hc, sd, q⟩ := h
  obtain ⟨as, r1⟩ := Dp.reads I d x v hd rx
  rw [Bool.true_xor] at q
  rcases hc with ⟨hc, sc⟩ | ⟨hc, sc⟩
  · obtain ⟨bs, r2⟩ := Dp.reads I _ y u hc ry
    exact SeqAt.notIn_list_reads r2 r1 (SeqAt.canLay_of_shaped sc) (SeqAt.canLay_of_shaped sd) (room_in_shaped sd hu) ⟨.bl _, H, I, rfl, q⟩
  · obtain ⟨bs, r2⟩ := Dp.reads I _ y u hc ry
    exact SeqAt.notIn_tuple_reads r2 r1 (SeqAt.canLay_of_shaped sc) (SeqAt.canLay_of_shaped sd) (room_in_shaped sd hu) ⟨.bl _, H, I, rfl, q⟩
end
theorem inOk_of {x c : D} (h : inOk x c = true) : SeqAt.shaped x = true ∧ noDict x = true ∧ SeqAt.shaped c = true ∧ noDict c = true := by
  unfold inOk at h
  simp only [Bool.and_eq_true] at h
  exact ⟨h.1.1.1, h.1.1.2, h.1.2, h.2⟩
section
variable {K : PySem.W.Frag}
theorem r2_inD : R2D K (rInD K false) hInD := by
  intro ns c Hs H x y d e z Q s rx ry hz q
  unfold hInD at hz
  split at hz
  · obtain ⟨p, rfl⟩ := Option.some_of_if hz
    obtain ⟨p1, p2, p3, p4⟩ := inOk_of p
    exact ⟨_, _, (Rp.same s _ _ (rx.rp (noDict_of p2))).dp, .inl ⟨(Rp.same s _ _ (ry.rp (noDict_of p4))).dp, p3⟩, p1, by rw [Bool.false_xor]; exact q _ Hs H (ExtP.refl s) (.bl _)⟩
  · obtain ⟨p, rfl⟩ := Option.some_of_if hz
    obtain ⟨p1, p2, p3, p4⟩ := inOk_of p
    exact ⟨_, _, (Rp.same s _ _ (rx.rp (noDict_of p2))).dp, .inr ⟨(Rp.same s _ _ (ry.rp (noDict_of p4))).dp, p3⟩, p1, by rw [Bool.false_xor]; exact q _ Hs H (ExtP.refl s) (.bl _)⟩
  · cases hz
theorem r2_notInD : R2D K (rInD K true) hNotInD := by
  intro ns c Hs H x y d e z Q s rx ry hz q
  unfold hNotInD at hz
  split at hz
  · obtain ⟨p, rfl⟩ := Option.some_of_if hz
    obtain ⟨p1, p2, p3, p4⟩ := inOk_of p
    exact ⟨_, _, (Rp.same s _ _ (rx.rp (noDict_of p2))).dp, .inl ⟨(Rp.same s _ _ (ry.rp (noDict_of p4))).dp, p3⟩, p1, by rw [Bool.true_xor]; exact q _ Hs H (ExtP.refl s) (.bl _)⟩
  · obtain ⟨p, rfl⟩ := Option.some_of_if hz
    obtain ⟨p1, p2, p3, p4⟩ := inOk_of p
    exact ⟨_, _, (Rp.same s _ _ (rx.rp (noDict_of p2))).dp, .inr ⟨(Rp.same s _ _ (ry.rp (noDict_of p4))).dp, p3⟩, p1, by rw [Bool.true_xor]; exact q _ Hs H (ExtP.refl s) (.bl _)⟩
  · cases hz
end
theorem cd_inD {X : Cx} (hu : X.A.units + 65 < cLine) : CmpD X .In hInD := ⟨_, op_inD hu, r2_inD⟩
theorem cd_notInD {X : Cx} (hu : X.A.units + 65 < cLine) : CmpD X .NotIn hNotInD := ⟨_, op_notInD hu, r2_notInD⟩
/-! ### max of a list of data -/
section
variable {prog : Program} {w : World} {A : Around} {E : Value → Shared → Prop} {s : Shared}
theorem max_at {l : Addr} {vs : Array Value} {x : PyData} {xs : List PyData} {as : List Addr} {Q : Value → Shared → Prop} (hh : A.handled = none) (hl : s.heap.IsList l vs) (hr : ReadsAll s.heap vs.toList (x :: xs) as) (ha : AlikeAll (x :: xs)) (hu : A.units + 1 + PyData.depthAll (x :: xs) < cLine)
    (h : ∀ (i : Nat) v h' tk, vs[i]? = some v → (x :: xs).getD i .none = maxD x xs → i < (x :: xs).length → (∀ b o, s.heap.get? b = some o → h'.get? b = some o) → Q v { s with heap := h', toks := tk }) :
    wpAny (model prog w) A (call (.builtin "max") [.ref l]) Q E s := by
  have hn : vs.size = xs.length + 1 := readsAll_len hr
  refine call_max_walkH (iter_listW (A := A.in1) hh hl fun s₂ e W st hfp hw hk => ?_)
  refine ⟨_, _, _, _, _, _, _, s.heap, _, rfl, W, st, hfp, by omega, hw, hk, cmpIn_gt (A := A.in1) hr ha (by show A.units + 1 + _ < _; exact hu), fun v s' hP m => ?_⟩
  obtain ⟨h', tk, rfl, hk'⟩ := moved_old e rfl m
  obtain ⟨bs, r, hi, _, _⟩ := readsAll_atA hr _ v hP
  have e1 : vs.size - 1 = xs.length := by omega
  have e2 := (argBest_fold (fun a b => dataLt b a) PyData.none x xs xs.length (Nat.le_refl _)).2
  rw [List.take_length] at e2
  rw [e1] at hP hi
  exact h _ v h' tk hP (by unfold maxD; rw [← e2]) hi hk'
end
def allAlike (ds : List D) : Bool := ds.all fun a => !isNon a && ds.all fun b => alike a b
theorem allAlike_of {ds : List D} (h : allAlike ds = true) : AlikeAll ds := by
  unfold allAlike at h
  rw [List.all_eq_true] at h
  refine ⟨fun x hx y hy => ?_, fun x hx e => ?_⟩
  · have := h x hx
    rw [Bool.and_eq_true] at this
    exact List.all_eq_true.mp this.2 y hy
  · have := h x hx
    subst e
    simp [isNon] at this
def hMaxD : List D → Option D
  | [.list (x :: xs)] => if allAlike (x :: xs) = true ∧ PyData.depthAll (x :: xs) ≤ 64 then some (maxD x xs) else none
  | _ => none
def rMaxD (K : PySem.W.Frag) : List V → Hp → VK → Prop := fun vs H Q => ∃ (a : Addr) (xs : List V) (d : D) (ds : List D), vs = [V.ref a] ∧ SqL K H a xs ∧ DpAll K H xs (d :: ds) ∧ allAlike (d :: ds) = true ∧ PyData.depthAll (d :: ds) ≤ 64 ∧ ∀ (i : Nat) (v : V), xs[i]? = some v → (d :: ds)[i]? = some (maxD d ds) → Q v H
theorem cr_maxD {X : Cx} (hc : X.calm = true) (hu : X.A.units + 65 < cLine) : CallR X (.builtin "max") (rMaxD X.K) := by
  intro pins s σ H vs us Q I r h
  obtain ⟨a, xs, d, ds, rfl, hs, hd, ha, hz, q⟩ := h
  obtain ⟨its, rv, hl, _⟩ := I.list hs
  rw [Vals.ref1 r]
  obtain ⟨as, rd⟩ := Dp.readsAll I (d :: ds) xs its hd rv
  refine max_at (I.ok.hd hc) hl.isList (by simpa using rd) (allAlike_of ha) (by omega) fun i v h' tk hv hm hi hk => ?_
  have hv' : its[i]? = some v := by simpa using hv
  obtain ⟨x, hx, rx⟩ : ∃ x, xs[i]? = some x ∧ RelV x v := by
    have hl : xs.length = its.length := rv.length
    have : i < xs.length := by rw [hl]; exact (List.getElem?_eq_some_iff.mp hv').1
    obtain ⟨u, e1, e2⟩ := rv.get (List.getElem?_eq_getElem this)
    rw [hv'] at e1
    cases e1
    exact ⟨_, List.getElem?_eq_getElem this, e2⟩
  refine ⟨x, H, I.kept hk, rx, q i x hx ?_⟩
  rw [List.getElem?_eq_getElem hi, ← hm, List.getD_eq_getElem?_getD, List.getElem?_eq_getElem hi]
  first | rfl | skip
theorem cb_maxD {K : PySem.W.Frag} : CB K (rMaxD K) hMaxD := by
  intro ns c Hs H vs ds z Q s r h q
  unfold hMaxD at h
  split at h
  · obtain ⟨⟨p1, p2⟩, rfl⟩ := Option.some_of_if h
    obtain ⟨v, rfl, rv⟩ := pr1 r
    obtain ⟨a, xs, rfl, h1, r1⟩ := rv.list
    refine ⟨a, xs, _, _, rfl, SqL.of (s _ _ h1), (RpAll.same s _ _ r1).dp, p1, p2, fun i v hv hm => ?_⟩
    obtain ⟨d', e1, e2⟩ := r1.get hv
    rw [hm] at e1
    cases e1
    exact q _ Hs H (ExtP.refl s) e2
  · cases h
/-! ### lcm of two -/
def lcm2 (a b : Int) : Nat := (Nat.lcm 1 a.natAbs).lcm b.natAbs
def lcmOK2 (a b : Int) : Prop := (max 1 a.natAbs).log2 ≤ 13000 ∧ (max a.natAbs b.natAbs).log2 ≤ 13000 ∧ (lcm2 a b : Int).natAbs.log2 < bitsLine
instance (a b : Int) : Decidable (lcmOK2 a b) := by unfold lcmOK2; infer_instance
theorem args_lcm2 (a b : Value) : argsOk "math.lcm" ⟨[a, b], []⟩ := by unfold argsOk; kernel_rfl
theorem run_lcm2 (a : Int) (t : Tok) (b : Int) (u : Tok) (hc0 : ¬(max 1 a.natAbs).log2 / 30 + 1 > 450) (hc1 : ¬(max ((Nat.lcm 1 a.natAbs)) b.natAbs).log2 / 30 + 1 > 450) (hsz : (((lcm2 a b : Nat) : Int)).natAbs.log2 < bitsLine) :
    Gives (Builtin.«math.lcm» ⟨[.int a t, .int b u], []⟩) (.int ((lcm2 a b : Nat) : Int)) := by
  unfold lcm2 at hsz ⊢
  exact .of_wp fun M A E s Q h => by
    obtain ⟨hp, g, d, tk, os⟩ := s
    wp_walk
    (try (simp only [if_neg hc1]; wp_walk))
    (try (refine wpAny_ite_false (decide_eq_false (Nat.not_le.mpr hsz)) ?_; wp_walk))
    exact ⟨_, rfl, h⟩
def rLcm2 : List V → Hp → VK → Prop := fun vs H Q => ∃ a b : Int, vs = [.int a, .int b] ∧ lcmOK2 a b ∧ Q (.int (lcm2 a b : Nat)) H
theorem Vals.int2' {a b : Int} {us : List Value} (r : Vals [.int a, .int b] us) : ∃ t u, us = [.int a t, .int b u] := by
  cases r with
  | cons r1 t => cases t with
    | cons r2 t =>
      cases t
      obtain ⟨t1, rfl⟩ := r1
      obtain ⟨t2, rfl⟩ := r2
      exact ⟨_, _, rfl⟩
theorem cr_lcm2 {X : Cx} : CallR X (.builtin "math.lcm") rLcm2 := by
  intro pins s σ H vs us Q I r h
  obtain ⟨a, b, rfl, ok, q⟩ := h
  obtain ⟨t, u, rfl⟩ := Vals.int2' r
  obtain ⟨o1, o2, o3⟩ := ok
  have e1 : Nat.lcm 1 a.natAbs = a.natAbs := Nat.lcm_one_left _
  exact call_function_meets PySem.W.MGF.kind_lcm PySem.W.MGF.plain_lcm PySem.W.MGF.entry_lcm (args_lcm2 _ _) (run_lcm2 a t b u (by omega) (by rw [e1]; omega) o3).meets ⟨.int _, H, I.tok _, ⟨_, rfl⟩, q⟩
def hLcm2 : List D → Option D
  | [.int a, .int b] => if lcmOK2 a b then some (.int (lcm2 a b : Nat)) else none
  | _ => none
theorem cb_lcm2 {K : PySem.W.Frag} : CB K rLcm2 hLcm2 := by
  intro ns c Hs H vs ds z Q s r h q
  unfold hLcm2 at h
  split at h
  · obtain ⟨ok, rfl⟩ := Option.some_of_if h
    obtain ⟨v, w, rfl, r1, r2⟩ := pr2 r
    rw [r1.int, r2.int]
    exact ⟨_, _, rfl, ok, q _ Hs H (ExtP.refl s) (.int _)⟩
  · cases h
end DL
/-! DLx: xs[1::-1] of a list or a tuple of two items or more. -/
namespace DL
open PySem PySem.Spec PyProof.Rows L2 _root_.HT
section
variable {prog : Program} {w : World} {A : Around} {E : Value → Shared → Prop} {s : Shared}
theorem adjust_two (n : Nat) (h : 2 ≤ n) : Builtin.Slice.sliceAdjust (some 1) none (-1) (n : Int) = (1, -1) := by
  unfold Builtin.Slice.sliceAdjust
  simp
  omega
theorem places_two : Builtin.Slice.slicePlaces 1 (-1) (-1) = 2 := by
  unfold Builtin.Slice.slicePlaces
  simp
theorem sliceApplied_two {sl : Addr} {vl vu vs : Value} {n : Nat} {Q : Int × Int × Nat → Shared → Prop} (hn : 2 ≤ n) (hs : s.heap.IsSliceOf sl vl vu vs) (pl : IsPart vl (some 1)) (pu : IsPart vu none) (ps : IsPart vs (some (-1)))
    (h : Q (1, -1, 2) s) : wpAny (model prog w) A (Builtin.Slice.sliceApplied (.ref sl) (pure (n : Int))) Q E s := by
  obtain ⟨os, hos, hcs, hds⟩ := id hs
  unfold Builtin.Slice.sliceApplied Builtin.Slice.sliceFields
  refine wpAny_bind (wpAny_bind (wpAny_field hos hds (x := vl) rfl (wpAny_bind (wpAny_field hos hds (x := vu) rfl (wpAny_bind (wpAny_field hos hds (x := vs) rfl (wpAny_pure ?_)))))))
  refine wpAny_bind (slicePart_ ps ?_)
  show wpAny _ _ (if ((-1 : Int) == 0) = true then _ else _) _ _ s
  rw [if_neg (by decide)]
  refine wpAny_bind (slicePart_ pl (wpAny_bind (slicePart_ pu (wpAny_bind (wpAny_pure ?_)))))
  show wpAny _ _ (match Builtin.Slice.sliceAdjust (some 1) none (-1) (n : Int) with | (lo, hi) => pure (lo, (-1 : Int), Builtin.Slice.slicePlaces lo hi (-1))) _ _ s
  rw [adjust_two n hn]
  show wpAny _ _ (pure ((1 : Int), (-1 : Int), Builtin.Slice.slicePlaces 1 (-1) (-1))) _ _ s
  rw [places_two]
  exact wpAny_pure h
theorem pick_two (xs : Array Value) (h : 2 ≤ xs.size) : ((List.range 2).filterMap fun (k : Nat) => xs[((1 : Int) + (k : Int) * (-1)).toNat]?).toArray = (xs.toList.take 2).reverse.toArray := by
  obtain ⟨l⟩ := xs
  match l, h with
  | a :: b :: r, _ => rfl
theorem getItem_tuple_two {t sl : Addr} {items : Array Value} {vl vu vs : Value} {Q : Value → Shared → Prop} (hn : 2 ≤ items.size) (ht : IsTup s.heap t items) (hs : s.heap.IsSliceOf sl vl vu vs) (pl : IsPart vl (some 1)) (pu : IsPart vu none) (ps : IsPart vs (some (-1)))
    (h : Q (.ref s.heap.objs.size) { s with heap := s.heap.push { cls := .type "tuple", data := .seq (items.toList.take 2).reverse.toArray } })
    (hsz : items.size ≤ sizeLine) : wpAny (model prog w) A (getItem (.ref t) (.ref sl)) Q E s := by
  have htake : sizeOk (.seq (items.toList.take 2).reverse.toArray) := by
    show (items.toList.take 2).reverse.toArray.size ≤ sizeLine
    rw [List.size_toArray, List.length_reverse, List.length_take, Array.length_toList]
    omega
  obtain ⟨os, hos, hcs, hds⟩ := id hs
  have hTs : s.TypeIs (.ref sl) "slice" := ⟨os, hos, hcs⟩
  unfold getItem
  try with_reducible refine wpAny_holding ?_
  first | refine wpAny_bind (wpAny_pure ?_) | skip
  refine wpAny_bind (wpAny_sequenceKey ht.typeIs (by decide) ?_)
  refine wpAny_bind (wpAny_callSpecial?_slot (name := Str.ofString "__getitem__") ht.typeIs PyProof.Rows.slot_tuple_getitem
    (wpAny_call_entry PyProof.Rows.slot_tuple_getitem ht.typeIs entry_tuple_getitem ?_ (args_tuple_getitem _ _)))
  show wpAny _ _ (Builtin.Tuple.tupleItemsOf (.ref t) >>= _) _ _ s
  refine wpAny_bind (tupleItemsOf_ ht ?_)
  refine wpAny_bind (wpAny_typeOf hTs ?_)
  rw [if_pos (by decide)]
  refine wpAny_bind (sliceApplied_two hn hs pl pu ps ?_)
  have hno : ¬ (((1 : Int) == 0 && (-1 : Int) == 1 && 2 == items.size) = true) := by
    intro q
    rw [Bool.and_eq_true, Bool.and_eq_true] at q
    exact absurd q.1.2 (by decide)
  show wpAny _ _ (if ((1 : Int) == 0 && (-1 : Int) == 1 && 2 == items.size) = true then _ else _) _ _ s
  rw [if_neg hno, pick_two _ hn]
  first
    | exact wpAny_bind (m := Builtin.Tuple.tupleExact _) (wpAny_newObj_type (wpAny_pure ⟨_, rfl, wpAny_pure h⟩) htake)
    | exact wpAny_bind (m := Builtin.Tuple.tupleExact _) (wpAny_newObj_type (wpAny_bind (wpAny_pure (wpAny_pure ⟨_, rfl, wpAny_pure h⟩))) htake)
    | exact wpAny_bind (wpAny_bind (m := Builtin.Tuple.tupleExact _) (wpAny_newObj_type (wpAny_pure (wpAny_pure ⟨_, rfl, wpAny_pure h⟩)) htake))
    | exact wpAny_bind (wpAny_bind (m := Builtin.Tuple.tupleExact _) (wpAny_newObj_type (wpAny_pure ⟨_, rfl, wpAny_pure h⟩) htake))
theorem slicePick_two (xs : Array Value) (h : 2 ≤ xs.size) : slicePick xs (some 1) none (some (-1)) = (xs.toList.take 2).reverse.toArray := by
  have hb : sliceBounds (some 1) none (some (-1)) xs.size = (1, -1, -1) := by
    have e : max (-1 : Int) (min 1 ((xs.size : Int) - 1)) = 1 := by omega
    simp [sliceBounds]
    omega
  have hr : sliceRange 1 (-1) (-1) = [1, 0] := by decide
  unfold slicePick
  rw [hb]
  show ((sliceRange 1 (-1) (-1)).filterMap (xs[·]?)).toArray = _
  rw [hr]
  obtain ⟨l⟩ := xs
  match l, h with
  | a :: b :: r, _ => rfl
end
theorem SqT.takeR {K : PySem.W.Frag} {H : Hp} {p : Addr} {xs : List V} : SqT K (upd H p (.tup xs)) p xs := SqT.of upd_same
def tTwo (K : PySem.W.Frag) (te : TE) : TE := fun σ H Q => te σ H fun x H1 => ∃ a xs, x = .ref a ∧ 2 ≤ xs.length ∧ ((SqT K H1 a xs ∧ ∀ p, H1 p = none → Q (.ref p) (upd H1 p (.tup (xs.take 2).reverse))) ∨ (SqL K H1 a xs ∧ ∀ p, H1 p = none → Q (.ref p) (upd H1 p (.lst (xs.take 2).reverse))))
section
variable {X : Cx}
theorem Vals.take {vs : List V} {us : List Value} (r : Vals vs us) (n : Nat) : Vals (vs.take n) (us.take n) := by
  induction r generalizing n with
  | nil => rw [List.take_nil, List.take_nil]; exact .nil
  | cons a b ih =>
    cases n with
    | zero => exact .nil
    | succ n => exact .cons a (ih n)
theorem pe_two {e : Expr} {te : TE} {k j : Nat} {p0 p1 p2 p3 pos : Pos} (he : PE X e te) : PE X (.Subscript e (.Slice (some (.Constant (.int 1) j p0)) none (some (.UnaryOp .USub (.Constant (.int 1) k p1) p2)) p3) pos) (tTwo X.K te) := by
  refine ⟨fun pins s σ H Q I h => ?_⟩
  refine Subscript_ (thn (he.run pins s σ H _ I h) fun v s1 ⟨x, H1, I1, r1, q1⟩ => ?_)
  obtain ⟨a, xs, ex, h2, q⟩ := q1
  subst ex
  cases r1
  have hst : PO X (some (.UnaryOp .USub (.Constant (.int 1) k p1) p2)) (tPart (tUn (rU fun i => .int (-i)) (tC (.int 1)))) := po_some (pe_un un_neg pe_int)
  have hlo : PO X (some (.Constant (.int 1) j p0)) (tPart (tC (.int 1))) := po_some pe_int
  refine wpAny_Slice (thn (hlo.run pins s1 σ H1 (fun o H2 => o = some 1 ∧ H2 = H1) I1 ⟨1, rfl, rfl, rfl⟩) fun vl s2 ⟨l, H2, I2, pl, el, e2⟩ => ?_)
  subst el e2
  refine thn (po_none.run pins s2 σ H2 (fun o H3 => o = none ∧ H3 = H2) I2 ⟨rfl, rfl⟩) fun vu s3 ⟨u, H3, I3, pu, eu, e3⟩ => ?_
  subst eu e3
  refine thn (hst.run pins s3 σ H3 (fun o H4 => o = some (-1) ∧ H4 = H3) I3 ⟨1, rfl, -1, rfl, rfl, rfl⟩) fun vs s4 ⟨o, H4, I4, ps, eo, e4⟩ => ?_
  subst eo e4
  have I5 : Inv X pins σ H4 { s4 with heap := s4.heap.push { cls := .type "slice", data := .fields #[vl, vu, vs] } } := I4.kept (t' := s4.toks) fun b ob q => Heap.get?_push_of_some _ q
  rcases q with ⟨hx, q⟩ | ⟨hx, q⟩
  · obtain ⟨its, r, ht, hz⟩ := I5.tuple hx
    have hlen := r.length
    show wpAny (model X.prog X.w) X.A (subscriptTail e (.Slice (some (.Constant (.int 1) j p0)) none (some (.UnaryOp .USub (.Constant (.int 1) k p1) p2)) p3) (.ref a) (.ref s4.heap.objs.size)) (EP X pins σ Q) X.xe { s4 with heap := s4.heap.push { cls := .type "slice", data := .fields #[vl, vu, vs] } }
    refine tail_any (ops := [.ref a, .ref s4.heap.objs.size]) ht.typeIs (PyProof.Rows.slot_tuple_getitem.lookup) ?_ (by with_unfolding_all rfl)
    refine getItem_tuple_two (by rw [List.size_toArray]; omega) ht (Heap.IsSliceOf.new _ vl vu vs) pl pu ps ?_ (by rw [List.size_toArray]; omega)
    refine ⟨.ref _, _, I5.laid (t' := s4.toks) (o := .tup (xs.take 2).reverse) (fun b ob q => Heap.get?_push_of_some _ q) (Nat.le_refl _) ?_, rfl, q _ (I5.hok.fresh (Nat.le_refl _))⟩
    exact ⟨by rw [List.length_reverse, List.length_take]; omega, _, (Vals.take r 2).reverse, IsTup.new _ _⟩
  · obtain ⟨its, r, ht, hz⟩ := I5.list hx
    have hlen := r.length
    show wpAny (model X.prog X.w) X.A (subscriptTail e (.Slice (some (.Constant (.int 1) j p0)) none (some (.UnaryOp .USub (.Constant (.int 1) k p1) p2)) p3) (.ref a) (.ref s4.heap.objs.size)) (EP X pins σ Q) X.xe { s4 with heap := s4.heap.push { cls := .type "slice", data := .fields #[vl, vu, vs] } }
    refine tail_any (ops := [.ref a, .ref s4.heap.objs.size]) ht.isList.typeIs (PySem.slot_list_getitem.lookup) ?_ (by with_unfolding_all rfl)
    refine wpAny_getItem_list_slice ht.isList (Heap.IsSliceOf.new _ vl vu vs) pl pu ps (by decide) ?_ (by rw [List.size_toArray]; omega)
    rw [slicePick_two _ (by rw [List.size_toArray]; omega)]
    refine ⟨.ref _, _, I5.laid (t' := s4.toks) (o := .lst (xs.take 2).reverse) (fun b ob q => Heap.get?_push_of_some _ q) (Nat.le_refl _) ?_, rfl, q _ (I5.hok.fresh (Nat.le_refl _))⟩
    exact ⟨by rw [List.length_reverse, List.length_take]; omega, _, 0, (Vals.take r 2).reverse, Heap.get?_push_size _ rfl⟩
end
def hTwo : D → Option D
  | .tuple xs => if 2 ≤ xs.length then some (.tuple (xs.take 2).reverse) else none
  | .list xs => if 2 ≤ xs.length then some (.list (xs.take 2).reverse) else none
  | _ => none
theorem ed_two {X : Cx} {ns : List Int} {c : Md} {W : List Nat} {e : Expr} {f : DEnv → M D} {k j : Nat} {p0 p1 p2 p3 pos : Pos} (he : ED X ns c W e f) : ED X ns c W (.Subscript e (.Slice (some (.Constant (.int 1) j p0)) none (some (.UnaryOp .USub (.Constant (.int 1) k p1) p2)) p3) pos) (dUn hTwo f) := by
  refine pe_weak (pe_two he) fun σ H Q q => ?_
  obtain ⟨Hs0, H0, Hs, ρ, n, z, n', R, e, q⟩ := q
  obtain ⟨x, h1, h2⟩ := dUn_some e
  refine ⟨Hs0, H0, Hs, ρ, n, x, _, R, h1, fun v Hs1 H1 e1 c1 r1 => ?_⟩
  have R1 := R.step e1 c1
  unfold hTwo at h2
  split at h2
  · obtain ⟨hl, rfl⟩ := Option.some_of_if h2
    obtain ⟨a, xs, rfl, t1, t2⟩ := r1.tuple
    refine ⟨a, xs, rfl, by rw [t2.length]; exact hl, .inl ⟨Same.seqT R1.sub t1, fun p hp => ?_⟩⟩
    have e2 := ExtP.new1 (o := .tup (xs.take 2).reverse) R1.sub hp
    exact q _ _ _ (e1.trans c1 e2.ext) (e2.cel c1) (.inl (.tup (SqT.of upd_same) (RpAll.same e2.st _ _ (t2.take 2).rev)))
  · obtain ⟨hl, rfl⟩ := Option.some_of_if h2
    obtain ⟨a, xs, rfl, t1, t2⟩ := r1.list
    refine ⟨a, xs, rfl, by rw [t2.length]; exact hl, .inr ⟨SqL.of (R1.sub _ _ t1), fun p hp => ?_⟩⟩
    have e2 := ExtP.new1 (o := .lst (xs.take 2).reverse) R1.sub hp
    exact q _ _ _ (e1.trans c1 e2.ext) (e2.cel c1) (.inl (.lst upd_same (RpAll.same e2.st _ _ (t2.take 2).rev)))
  · cases h2
end DL
namespace DL
open PySem PySem.Spec PyProof.Rows L2
/-! ### zip of two, each a list or a tuple (not list, tuple) -/
def iZx (A : DEnv → M (List D)) : DEnv → M (List D) := fun ρ n => match iZp A ρ n with
  | some r => some r
  | none => iZm A ρ n
section
variable {X : Cx} {ns : List Int} {c : Md} {W : List Nat} {a b : Expr} {p pos : Pos} {A : DEnv → M (List D)}
theorem pi_or {tg e : Expr} {t1 t2 : TI} (h1 : PI X tg e t1) (h2 : PI X tg e t2) : PI X tg e (fun σ H R => t1 σ H R ∨ t2 σ H R) := ⟨fun pins s σ H R I q => by
  rcases q with q | q
  · exact h1.run pins s σ H R I q
  · exact h2.run pins s σ H R I q⟩
theorem id_zipX {elts : List Expr} {kk : Nat} {tpos : Pos} (hg : Gl X "zip") (hm : X.mg "zip" = none) (ha : AD X ns c W [a, b] A)
    (hs : starEach [a, b] X.env = (false, eval a X.env) :: starEach [b] X.env := by rfl) (hpl : (backTo pos (starEach [b] X.env)).any (·.1) = false := by rfl) : ID X ns c W (.Tuple elts kk tpos) (.Call (.Name "zip" p) [a, b] [] pos) (iZx A) := by
  refine pi_weak (pi_or (id_zip hg hm ha hs hpl) (id_zipM hg hm ha hs hpl)) fun σ H R q => ?_
  obtain ⟨Hs0, H0, Hs, ρ, n, ds, n', r, e, q⟩ := q
  unfold iZx at e
  split at e
  · rename_i r' h
    cases e
    exact .inl ⟨Hs0, H0, Hs, ρ, n, ds, n', r, h, q⟩
  · exact .inr ⟨Hs0, H0, Hs, ρ, n, ds, n', r, e, q⟩
end
end DL
/-! DLy: the truth of any value; min with a default. -/
namespace DL
open PySem PySem.Spec PyProof.Rows L2
open PySem.W (AlikeAll min_list_default minD minD_ints)
def truD : D → Option Bool
  | .none => some false
  | .bool b => some b
  | .int i => some (i != 0)
  | .list xs => some (!xs.isEmpty)
  | .tuple xs => some (!xs.isEmpty)
  | _ => none
def dTru (f : DEnv → M D) : DEnv → M Bool := fun ρ n => match f ρ n with
  | some (d, n1) => match truD d with
    | some b => some (b, n1)
    | none => none
  | none => none
section
variable {X : Cx} {ns : List Int} {c : Md} {W : List Nat} {e : Expr} {es : List Expr} {f : DEnv → M D} {A : DEnv → M (List D)} {pos p : Pos} {x : Str}
theorem td_tru (he : ED X ns c W e f) (hx : ∀ whole, isTrue e X.env whole = (do let v ← whole; standAt e.pos; holding [v] (truthy v)) := by intro _; rfl) : TD X ns c W e (dTru f) := by
  refine pt_weak (pt_truth he hx) fun σ H Q q => ?_
  obtain ⟨Hs0, H0, Hs, ρ, n, b, n', R, e, q⟩ := q
  unfold dTru at e
  split at e
  · rename_i d n1 h1
    split at e
    · rename_i b' h2
      cases e
      refine ⟨Hs0, H0, Hs, ρ, n, d, _, R, h1, fun v Hs1 H1 e1 c1 r1 => ⟨b, ?_, q Hs1 H1 e1 c1⟩⟩
      have R1 := R.step e1 c1
      unfold truD at h2
      split at h2
      · cases h2; rw [r1.non]; rfl
      · cases h2; rw [SRep.bool r1]; rfl
      · cases h2; rw [r1.int]; rfl
      · cases h2
        obtain ⟨a, xs, rfl, t1, t2⟩ := r1.list
        refine .inl ⟨xs, SqL.of (R1.sub _ _ t1), ?_⟩
        cases t2 <;> rfl
      · cases h2
        obtain ⟨a, xs, rfl, t1, t2⟩ := r1.tuple
        refine .inr (.inl ⟨xs, Same.seqT R1.sub t1, ?_⟩)
        cases t2 <;> rfl
      · cases h2
    · cases e
  · cases e
end
/-! ### min(xs, default=None) of whole numbers -/
def rMinDef (K : PySem.W.Frag) : List V → List V → Hp → VK → Prop := fun vs zs H Q => ∃ (a : Addr) (is : List Int), vs = [V.ref a] ∧ zs = [V.non] ∧ SqL K H a (is.map V.int) ∧ (is = [] → Q .non H) ∧ ∀ i is', is = i :: is' → Q (.int (is'.foldl min i)) H
theorem depth_ints : ∀ is : List Int, PyData.depthAll (is.map .int) ≤ 1
  | [] => by simp [PyData.depthAll]
  | a :: l => by
    have := depth_ints l
    rw [List.map_cons]
    simp only [PyData.depthAll, PyData.depth]
    omega
theorem alike_ints : ∀ is : List Int, AlikeAll (is.map .int) := fun is => ⟨fun x hx y hy => by
  obtain ⟨a, _, rfl⟩ := List.mem_map.mp hx
  obtain ⟨b, _, rfl⟩ := List.mem_map.mp hy
  rfl, fun x hx e => by
  obtain ⟨a, _, rfl⟩ := List.mem_map.mp hx
  cases e⟩
theorem dp_ints {K : PySem.W.Frag} {H : Hp} : ∀ is : List Int, DpAll K H (is.map V.int) (is.map .int)
  | [] => .nil
  | i :: is => .cons (.int i) (dp_ints is)
theorem cr_minDef {X : Cx} (hc : X.calm = true) (hu : X.A.units + 65 < cLine) : CallRK X (.builtin "min") [Str.ofString "default"] (rMinDef X.K) := by
  intro pins s σ H vs zs us ws Q I r rz h
  obtain ⟨a, is, rfl, rfl, hs, q0, q1⟩ := h
  obtain ⟨its, rv, hl, _⟩ := I.list hs
  rw [Vals.ref1 r]
  obtain ⟨w1, rfl, e1⟩ := vals1 rz
  obtain rfl : w1 = Value.none := e1
  obtain ⟨as, rd⟩ := Dp.readsAll I (is.map .int) (is.map V.int) its (dp_ints is) rv
  have hd := depth_ints is
  refine min_list_default (I.ok.hd hc) hl.isList (by simpa using rd) (alike_ints is) (by omega) (fun hn h' tk hk => ?_) fun y ys i v h' tk bs hxs hv hr hk => ?_
  · exact ⟨.non, H, I.kept hk, rfl, q0 (List.map_eq_nil_iff.mp hn)⟩
  · match is, hxs with
    | i0 :: is', hxs =>
      rw [List.map_cons] at hxs
      cases hxs
      rw [minD_ints] at hr
      obtain ⟨t, rfl⟩ : ∃ t, v = Value.int (is'.foldl min i0) t := by
        cases hr
        exact ⟨_, rfl⟩
      exact ⟨.int _, H, I.kept hk, ⟨t, rfl⟩, q1 i0 is' rfl⟩
def hMinDef : List D → Option D
  | [.list ds] => match intsD ds with
    | some [] => some .none
    | some (i :: is) => some (.int (is.foldl min i))
    | none => none
  | _ => none
theorem ed_minDef {X : Cx} {ns : List Int} {c : Md} {W : List Nat} {e : Expr} {f : DEnv → M D} {pos p kp : Pos} {j : Nat} {np : Pos} (hc : X.calm = true) (hu : X.A.units + 65 < cLine) (hg : Gl X "min") (hm : X.mg "min" = none) (ha : AD X ns c W [e] (dAs [f]))
    (he : backTo pos (starEach [e] X.env) = (false, eval e X.env) :: backTo pos (starEach [] X.env) := by rfl) (hpl : (backTo pos (starEach [e] X.env)).any (·.1) = false := by rfl)
    (hall : (backToKw pos (keywordEach [⟨some "default", .Constant .none j np, kp⟩] X.env)).all (·.1.isSome) = true := by rfl) (hnone : (backToKw pos (keywordEach [⟨some "default", .Constant .none j np, kp⟩] X.env)).any (·.1.isNone) = false := by rfl) (hks : (backToKw pos (keywordEach [⟨some "default", .Constant .none j np, kp⟩] X.env)).filterMap (·.1) = [Str.ofString "default"] := by rfl) :
    ED X ns c W (.Call (.Name "min" p) [e] [⟨some "default", .Constant .none j np, kp⟩] pos) (dUnA hMinDef (dAs [f])) := by
  refine pe_weak (pe_callBK (cr_minDef hc hu) hg hm (by decide +kernel) ha (pk_cons pe_non pk_nil) (by decide) (by decide) he hpl hall hnone hks) fun σ H Q q => ?_
  obtain ⟨Hs0, H0, Hs, ρ, n, z, n', R, e, q⟩ := q
  obtain ⟨x, h1, h2⟩ := dUnA_some e
  refine ⟨Hs0, H0, Hs, ρ, n, x, _, R, h1, fun vs Hs1 H1 e1 c1 r1 => ?_⟩
  have R1 := R.step e1 c1
  unfold hMinDef at h2
  split at h2
  · obtain ⟨v, rfl, rv⟩ := pr1 r1
    obtain ⟨a, xs, rfl, t1, t2⟩ := rv.list
    split at h2
    · rename_i hi
      cases h2
      have ee := intsD_rp hi t2
      subst ee
      exact ⟨a, [], rfl, rfl, SqL.of (R1.sub _ _ t1), fun _ => q _ _ _ e1 c1 (.inl .non), (fun i is' h => nomatch h)⟩
    · rename_i i is hi
      cases h2
      have ee := intsD_rp hi t2
      subst ee
      exact ⟨a, i :: is, rfl, rfl, SqL.of (R1.sub _ _ t1), (fun h => nomatch h), fun i' is' h => by
        cases h
        exact q _ _ _ e1 c1 (.inl (.int _))⟩
    · cases h2
  · cases h2
end DL
/-! DLz: sorted of tuples, the first of them empty. -/
namespace DL
open PySem PySem.Spec PyProof.Rows L2
section
open PySem.SeqAt PySem.W PySem.Calls
variable {prog : Program} {w : World} {A : Around} {E : Value → Shared → Prop} {s : Shared}
theorem call_tuple_lt {Q : Value → Shared → Prop} {l b : Addr} {items items2 : Array Value} {e r : Nat → Bool} (hl : s.heap.IsTuple l items) (hb : s.heap.IsTuple b items2)
    (he : ∀ j (h1 : j < items.size) (h2 : j < items2.size), EqAt A.in1 s items[j] items2[j] (e j)) (hr : ∀ j (h1 : j < items.size) (h2 : j < items2.size), e j = false → RcLt A.in1 s items[j] items2[j] (r j))
    (h : Q (.bool (firstLt e r (decide (items.size < items2.size)) (List.range (min items.size items2.size)))) s) : wpAny (model prog w) A (call (.builtin "tuple.__lt__") [.ref l, .ref b]) Q E s := by
  obtain ⟨⟨cls, dd, data, sl⟩, ho, hc, n, hd⟩ := id hl
  obtain ⟨⟨cls2, dd2, data2, sl2⟩, ho2, hc2, n2, hd2⟩ := id hb
  simp only at hc hd hc2 hd2
  subst hc hd hc2 hd2
  exact call_meets F.slot_tuple_lt ⟨_, ho, rfl⟩ F.entry_tuple_lt (F.args_tuple_lt_2 _ _) (tuple_ltAt l b items items2 n n2 dd dd2 sl sl2 e r) ⟨ho, ho2, he, hr, h⟩
theorem oneLt_tuple {xs ys : List PyData} {a b : Value} {as bs : List Addr} {Q : Bool → Shared → Prop} (ra : Reads s.heap a (.tuple xs) as) (rb : Reads s.heap b (.tuple ys) bs) (hal : alikeAll xs ys = true)
    (hu : A.units + min (PyData.depth (.tuple xs)) (PyData.depth (.tuple ys)) < cLine) (hq : Q (dataLt (.tuple xs) (.tuple ys)) s) : wpAny (model prog w) A (oneLt' true a b) Q E s := by
  cases ra with
  | @tuple l o vs n _ as₁ h1 h2 h3 h4 =>
    cases rb with
    | @tuple l' o' vs' n' _ bs₁ k1 k2 k3 k4 =>
      have n1 : vs.size = xs.length := by simpa using ReadsAll.length _ _ _ h4
      have n2 : vs'.size = ys.length := by simpa using ReadsAll.length _ _ _ k4
      rw [dataLt_tuple, ← firstLt_toks xs ys hal, ← n1, ← n2] at hq
      rw [oneLt'_eq]
      simp only [if_true]
      refine wpAny_bind (wpAny_cRoomFor (room_here hu) ?_)
      refine wpAny_bind (wpAny_callSpecialIfBound?_slot (T := "tuple") ⟨_, h1, h2⟩ F.slot_tuple_lt (call_tuple_lt (e := pairEq xs ys) (r := fun j => dataLt (xs.getD j .none) (ys.getD j .none)) ⟨_, h1, h2, _, h3⟩ ⟨_, k1, k2, _, k3⟩ (fun j j1 j2 => ?_) (fun j j1 j2 hj => ?_) ?_))
      · have := eqAt_alikeAll xs ys A.in1 s vs.toList vs'.toList _ _ h4 k4 hal (room_in hu) j (by simpa using j1) (by simpa using j2)
        simpa using this
      · have := rcLt_alikeAll xs ys A.in1 s vs.toList vs'.toList _ _ h4 k4 hal (room_in hu) j (by simpa using j1) (by simpa using j2) hj
        simpa using this
      · exact wpAny_truthy_bool hq
theorem firstsE : ∀ (vs : List Value) (ds : List PyData), EachIs (fun v d => ∃ as, Reads s.heap v d as) vs ds → (∀ d, d ∈ ds → ∃ xs, d = .tuple xs) → ∀ {Q : List (Option Value) → Shared → Prop}, (∀ fs, Q fs s) → wpAny (model prog w) A (vs.mapM firstOfTuple') Q E s
  | _, _, .nil, _, _, h => by rw [List.mapM_nil]; exact wpAny_pure (h _)
  | _, _, .cons (b := d) ⟨as, r⟩ t, ht, Q, h => by
    obtain ⟨ys, rfl⟩ := ht d (List.mem_cons_self ..)
    cases r with
    | @tuple a o xs n _ _ ho hc hd hr =>
      rw [List.mapM_cons]
      refine wpAny_bind ?_
      rw [kas_first_eq]
      refine wpAny_bind (Looks.here (show Looks (model prog w) s.heap (typeOf (.ref a)) o.cls from (Looks.ld ho).andThen .now) ?_)
      rw [hc, if_neg (by first | decide | simp)]
      refine wpAny_bind (listItems_at ho hd (wpAny_pure ?_))
      exact wpAny_bind (firstsE _ _ t (fun d hd => ht d (List.mem_cons_of_mem _ hd)) (Q := fun bs s' => wpAny (model prog w) A (pure (xs[0]? :: bs)) Q E s') fun fs => wpAny_pure (h _))
theorem kindE {v : Value} {vs : List Value} {ds : List PyData} (e : EachIs (fun v d => ∃ as, Reads s.heap v d as) (v :: vs) (.tuple [] :: ds)) (ht : ∀ d, d ∈ ds → ∃ xs, d = .tuple xs) {Q : SortKind → Shared → Prop} (hq : Q oneType' s) : wpAny (model prog w) A (keyKind' (v :: vs).toArray) Q E s := by
  have hT : ∀ u ∈ v :: vs, Looks (model prog w) s.heap (typeOf u) (Value.type "tuple") := fun u hu => by
    obtain ⟨d, hd, as, r⟩ := e.left u hu
    have : ∃ xs, d = .tuple xs := by
      rcases List.mem_cons.mp hd with rfl | hd
      · exact ⟨_, rfl⟩
      · exact ht d hd
    obtain ⟨xs, rfl⟩ := this
    exact looks_reads r
  cases e with
  | cons h t =>
    obtain ⟨as, r⟩ := h
    rw [keyKind'_eq, List.mapM_toArray, map_eq_pure_bind, List.mapM_cons]
    cases r with
    | @tuple a o xs n _ _ ho hc hd hr =>
      have hx : xs[0]? = none := by
        have := ReadsAll.length _ _ _ hr
        rw [Array.getElem?_eq_none]
        simpa using this
      refine wpAny_bind (wpAny_bind (wpAny_bind ?_))
      rw [kas_first_eq]
      refine wpAny_bind (Looks.here (show Looks (model prog w) s.heap (typeOf (.ref a)) o.cls from (Looks.ld ho).andThen .now) ?_)
      rw [hc, if_neg (by first | decide | simp)]
      refine wpAny_bind (listItems_at ho hd (wpAny_pure ?_))
      rw [hx]
      refine wpAny_bind (firstsE _ _ t ht (Q := fun bs s' => wpAny (model prog w) A (pure (none :: bs)) _ E s') fun fs => wpAny_pure (wpAny_pure ?_))
      rw [if_neg (by simp), if_neg (by simp)]
      rw [oneTypeOnly'_eq, List.mapM_toArray, map_eq_pure_bind]
      refine wpAny_bind (wpAny_bind (wpAny_bind (kas_mapM (r := Value.type "tuple") _ (fun v hv Q' hq => (hT v hv).here hq) (wpAny_pure ?_))))
      have hall : ((List.map (fun _ => Value.type "tuple") (Value.ref a :: vs)).toArray.all fun x => x == Value.type "tuple") = true := by
        simp only [List.all_toArray, List.all_map, List.all_eq_true]
        intro _ _
        exact beq_self_eq_true _
      have h0 : (List.map (fun _ => Value.type "tuple") (Value.ref a :: vs)).toArray[0]? = some (Value.type "tuple") := by simp
      rw [h0]
      simp only [hall, if_true]
      exact wpAny_pure (wpAny_pure hq)
theorem sortsAtE {vs : List Value} {ds : List PyData} (e : EachIs (fun v d => ∃ as, Reads s.heap v d as) vs (.tuple [] :: ds)) (hal : AllAlike (.tuple [] :: ds)) (ht : ∀ d, d ∈ ds → ∃ xs, d = .tuple xs) (hu : ∀ d, d ∈ (.tuple [] :: ds) → A.units + d.depth < cLine) : SortsAt prog w A s (dataKind s.heap (.tuple [] :: ds)) vs := by
  have ht' : ∀ d, d ∈ (PyData.tuple [] :: ds) → ∃ xs, d = .tuple xs := fun d hd => by
    rcases List.mem_cons.mp hd with rfl | hd
    · exact ⟨_, rfl⟩
    · exact ht d hd
  refine ⟨fun v hv => ?_, oneType', ?_, fun h2 E Q hq => ?_⟩
  · obtain ⟨d, hd, as, r⟩ := e.left v hv
    exact ⟨_, dataKind_some hal hd r⟩
  · intro E x y a b Q ha hb hq
    obtain ⟨d, as, hd, ra, rfl⟩ := dataKind_inv ha
    obtain ⟨d', as', hd', rb, rfl⟩ := dataKind_inv hb
    have hdd := hal d hd d' hd'
    obtain ⟨xs, rfl⟩ := ht' d hd
    obtain ⟨ys, rfl⟩ := ht' d' hd'
    rw [keyLt'_oneType]
    exact oneLt_tuple ra rb (by simpa [alike] using hdd) (Nat.lt_of_le_of_lt (Nat.add_le_add_left (Nat.min_le_left _ _) _) (hu _ hd)) hq
  · cases e with
    | cons h t => exact kindE (.cons h t) ht hq
theorem sorted_dataE {vs : List Value} {bs : List PyData} {R : Value → PyData → Prop} {l : Addr} {Q : Value → Shared → Prop} (hl : s.heap.IsList l vs.toArray) (e : EachIs R vs (.tuple [] :: bs)) (er : EachIs (fun v b => ∃ as, Reads s.heap v (id b) as) vs (.tuple [] :: bs)) (hal : AllAlike (.tuple [] :: bs)) (ht : ∀ d, d ∈ bs → ∃ xs, d = .tuple xs) (hL : (PyData.tuple [] :: bs).length ≤ sizeLine)
    (hu : ∀ b, b ∈ (PyData.tuple [] :: bs) → A.units + 2 + b.depth < cLine) (h : ∀ out, out.length = (PyData.tuple [] :: bs).length → EachIs R out ((PyData.tuple [] :: bs).mergeSort (dataLe false id)) → Q (.ref (s.heap.objs.size + 1)) { s with heap := sortedAll s.heap vs (List.toArray out) }) :
    wpAny (model prog w) A (call (.builtin "sorted") [.ref l]) Q E s := by
  have er' : EachIs (fun v b => ∃ as, Reads (sortingHeap (copyHeap s.heap vs) (s.heap.objs.size + 1) vs) v (id b) as) vs (.tuple [] :: bs) := er.mono fun _ _ ⟨as, r⟩ => ⟨as, PyProof.Rows.Reads.keeps (fun _ _ => sorting_copy_old) r⟩
  have hm : (PyData.tuple [] :: bs).map id = .tuple [] :: bs := List.map_id _
  have hal' : AllAlike ((PyData.tuple [] :: bs).map id) := by rw [hm]; exact hal
  have hs := sortVals_data false e er' hal'
  rw [hm] at hs
  refine sorted_vals hl (sortsAtE (s := { s with heap := sortingHeap (copyHeap s.heap vs) (s.heap.objs.size + 1) vs }) er' hal ht hu) (by rw [e.length]; exact hL)
    (h _ (by rw [sortVals_length false rfl]; exact e.length) hs)
end
def isTupA : D → Bool
  | .tuple _ => true
  | _ => false
/-- tuples, the first of them empty -/
def sortOKE : List D → Bool
  | .tuple [] :: ds => likeAll (.tuple [] :: ds) && ds.all isTupA && (PyData.tuple [] :: ds).all (fun d => decide (d.depth ≤ 32)) && decide ((PyData.tuple [] :: ds).length ≤ LIM)
  | _ => false
def hSortE : List D → Option D
  | [.list ds] => if sortOKE ds = true then some (.list (ds.mergeSort (PySem.W.dataLe false id))) else none
  | _ => none
def rSortE (K : PySem.W.Frag) : List V → Hp → VK → Prop := fun vs H Q => ∃ (a : Addr) (xs : List V) (ds : List D) (Hs : Hp), vs = [V.ref a] ∧ SqL K H a xs ∧ Same Hs H ∧ RpAll K Hs xs ds ∧ sortOKE ds = true ∧
  ∀ (ws : List V) (p : Addr), RpAll K Hs ws (ds.mergeSort (PySem.W.dataLe false id)) → H p = none → Q (.ref p) (upd H p (.lst ws))
section
variable {X : Cx} {ns : List Int} {c : Md} {W : List Nat} {a : Expr} {A : DEnv → M (List D)} {pos p : Pos}
theorem cr_sortE (hu : X.A.units + 64 < cLine) : CallR X (.builtin "sorted") (rSortE X.K) := by
  intro pins s σ H vs us Q I r h
  obtain ⟨a, xs, ds, Hs, rfl, hs, sm, rp, ok, q⟩ := h
  obtain ⟨its, rv, hl, _⟩ := I.list hs
  rw [Vals.ref1 r]
  unfold sortOKE at ok
  split at ok
  · rename_i ds
    simp only [Bool.and_eq_true, decide_eq_true_eq] at ok
    obtain ⟨⟨⟨o1, o2⟩, o3⟩, o4⟩ := ok
    have e := eachR rp rv
    have er : PySem.W.EachIs (fun v b => ∃ as, Reads s.heap v (id b) as) its (.tuple [] :: ds) := e.mono fun u d ⟨w, h1, h2⟩ => Dp.reads I d w u (Rp.dp d w (Rp.same sm d w h2)) h1
    have hal : PySem.W.AllAlike (.tuple [] :: ds) := by
      intro d hd d' hd'
      exact List.all_eq_true.mp (List.all_eq_true.mp o1 d hd) d' hd'
    have hk : ∀ d, d ∈ ds → ∃ xs, d = .tuple xs := fun d hd => by
      have := List.all_eq_true.mp o2 d hd
      unfold isTupA at this
      split at this
      · exact ⟨_, rfl⟩
      · cases this
    refine sorted_dataE hl.isList e er hal hk (by rw [LIM_eq]; exact o4) (fun b hb => ?_) fun out h1 h2 => ?_
    · have := decide_eq_true_eq.mp (List.all_eq_true.mp o3 b hb)
      show X.A.units + 2 + b.depth < cLine
      omega
    · obtain ⟨ws, w1, w2⟩ := eachW h2
      obtain ⟨ep, he'⟩ := PyProof.Rows.sortedAll_at s.heap its out.toArray
      have hlen : ws.length ≤ sizeLine := by
        rw [w2.length, List.length_mergeSort]
        rw [LIM_eq]; exact o4
      exact ⟨.ref _, upd H (s.heap.objs.size + 1) (.lst ws), I.laid (t' := s.toks) (fun _ _ => PyProof.Rows.sortedAll_old) (Nat.le_succ _) ⟨hlen, out, ep, w1, he'⟩, rfl, q ws _ w2 (I.hok.fresh (Nat.le_succ _))⟩
  · cases ok
theorem fd_sortedE (hu : X.A.units + 64 < cLine) (hg : Gl X "sorted") (hm : X.mg "sorted" = none) (ha : AD X ns c W [a] A) (hv : bootBuiltins "sorted" = some (.builtin "sorted") := by decide +kernel)
    (he : starEach [a] X.env = (false, eval a X.env) :: starEach [] X.env := by rfl) (hpl : (backTo pos (starEach [] X.env)).any (·.1) = false := by rfl) : FD X ns c W (.Call (.Name "sorted" p) [a] [] pos) (dUnA hSortE A) := by
  refine pe_weak (pe_callB (cr_sortE hu) hg hm hv ha (by decide) (by decide) he hpl) fun σ H Q q => ?_
  obtain ⟨Hs0, H0, Hs, ρ, n, z, n', R, e, q⟩ := q
  obtain ⟨ds, h1, h2⟩ := dUnA_some e
  refine ⟨Hs0, H0, Hs, ρ, n, ds, n', R, h1, fun vs Hs1 H1 e1 c1 r1 => ?_⟩
  have R1 := R.step e1 c1
  unfold hSortE at h2
  split at h2
  · obtain ⟨ok, h3⟩ := Option.some_of_if h2
    cases h3
    obtain ⟨v, rfl, rv⟩ := pr1 r1
    obtain ⟨a, xs, rfl, t1, t2⟩ := rv.list
    exact ⟨a, xs, _, Hs1, rfl, SqL.of (R1.sub _ _ t1), R1.sub, t2, ok, fun ws l rw' hl => Rel.newL R1 e1 c1 q hl rw'⟩
  · cases h2
theorem hSortE_lst : fLst (dUnA hSortE A) = dUnA hSortE A := by
  funext ρ n
  unfold fLst
  cases e : dUnA hSortE A ρ n with
  | none => rfl
  | some q =>
    obtain ⟨d, n'⟩ := q
    obtain ⟨y, _, h2⟩ := dUnA_some e
    unfold hSortE at h2
    split at h2
    · obtain ⟨ok, h3⟩ := Option.some_of_if h2
      cases h3
      rfl
    · cases h2
theorem ed_sortedE (hu : X.A.units + 64 < cLine) (hg : Gl X "sorted") (hm : X.mg "sorted" = none) (ha : AD X ns c W [a] A) (hv : bootBuiltins "sorted" = some (.builtin "sorted") := by decide +kernel)
    (he : starEach [a] X.env = (false, eval a X.env) :: starEach [] X.env := by rfl) (hpl : (backTo pos (starEach [] X.env)).any (·.1) = false := by rfl) : ED X ns c W (.Call (.Name "sorted" p) [a] [] pos) (dUnA hSortE A) := by
  have := ed_fresh (fd_sortedE (p := p) (pos := pos) hu hg hm ha hv he hpl)
  rw [hSortE_lst] at this
  exact this
end
/-! ### x, y = e, [..]: the second an own list -/
def sParPO (i j : Nat) (f g : DEnv → M D) : SDen := fun ρ n =>
  match f ρ n with
  | some (d, n1) => match g ρ n1 with
    | some (.list es, n2) => some (.nx ((ρ.set i (some d)).set j (some (.list es))), n2)
    | _ => none
  | _ => none
section
variable {X : Cx} {ns : List Int} {c : Md} {fr : FR} {W Wb : List Nat} {a b : Expr} {f g : DEnv → M D} {x y : Str} {px py pt pt2 spos : Pos} {kt k2 : Nat}
theorem sd_parPO (i j : Nat) (hN : X.N.Nodup) (ha : ED X ns c W a f) (hb : FD X ns c W b g) (hc : X.calm = true := by rfl) (hi : X.N[i]? = some x := by rfl) (hj : X.N[j]? = some y := by rfl) (hij : i ≠ j := by decide)
    (hx : X.env.scope.names.lookup x = some .local := by rfl) (hy : X.env.scope.names.lookup y = some .local := by rfl)
    (hw : swappedStores [.Tuple [.Name x px, .Name y py] kt pt] (.Tuple [a, b] k2 pt2) X.env = pure (some [x, y]) := by rfl) (hiW : i ∉ W := by decide) (hjW : j ∉ W := by decide)
    (hs : swapsWithSole [.Tuple [.Name x px, .Name y py] kt pt] (.Tuple [a, b] k2 pt2) spos.line X.env = pure false := by rfl)
    (he1 : starEach [a, b] X.env = (false, eval a X.env) :: starEach [b] X.env := by rfl) (he2 : starEach [b] X.env = (false, eval b X.env) :: starEach [] X.env := by rfl) :
    SD X fr ns c Wb W (j :: W) (.Assign [.Tuple [.Name x px, .Name y py] kt pt] (.Tuple [a, b] k2 pt2) spos) (sParPO i j f g) := by
  refine ⟨fun pins s σ H E I q => (ps_par hc hN hi hj hij hx hy (pa_cons ha (pa_cons hb pa_nil he2) he1) hw hs).run pins s σ H E I ?_⟩
  have hlj : j < σ.length := by rw [I.len]; exact (List.getElem?_eq_some_iff.mp hj).1
  obtain ⟨Hs0, H0, Hs, ρ, n, o, n', R, e, q⟩ := q
  unfold sParPO at e
  split at e
  · rename_i ds n1 h1
    split at e
    · rename_i es n2 h2
      cases e
      refine ⟨Hs0, H0, Hs, ρ, n, ds, n1, R, h1, fun v Hs1 H1 e1 c1 r1 => ?_⟩
      have R1 := R.step e1 c1
      refine ⟨Hs0, H0, Hs1, ρ, n1, es, _, R1, h2, fun p vs Hs2 H2 e2 c2 p0 p1 p2 r2 => ?_⟩
      have R2 := R1.step e2 c2
      have hp0 := R1.none0 p0
      have R3 := R2.set_plain (i := i) hiW (r1.same e2.st)
      have R4 := R3.own1 (i := j) hjW (by rw [List.length_set]; exact hlj) hp0.1 hp0.2 p1 p2 r2 fun l hl => by
        rw [List.getElem?_set_ne fun z : i = l => hiW (z ▸ hl)]
        exact R1.notOwn p0 l hl
      exact ⟨_, _, rfl, q _ Hs2 H2 (Same.trans' e1.st e2.st) R4⟩
    · cases e
  · cases e
theorem sd_parPOc (i j : Nat) (hN : X.N.Nodup) (ha : ED X ns c W a f) (hb : FD X ns c W b g) (hc : X.calm = true := by rfl) (hi : X.N[i]? = some x := by rfl) (hj : X.N[j]? = some y := by rfl) (hij : i ≠ j := by decide)
    (hx : Loc X.env.scope x := by first | exact .inl rfl | exact .inr rfl) (hy : Loc X.env.scope y := by first | exact .inl rfl | exact .inr rfl)
    (hfx : X.fn x = true ∨ X.env.scope.names.lookup x = some .local := by first | exact .inl rfl | exact .inr rfl) (hfy : X.fn y = true ∨ X.env.scope.names.lookup y = some .local := by first | exact .inl rfl | exact .inr rfl)
    (hw : swappedStores [.Tuple [.Name x px, .Name y py] kt pt] (.Tuple [a, b] k2 pt2) X.env = pure none := by rfl) (hiW : i ∉ W := by decide) (hjW : j ∉ W := by decide)
    (hs : swapsWithSole [.Tuple [.Name x px, .Name y py] kt pt] (.Tuple [a, b] k2 pt2) spos.line X.env = pure false := by rfl)
    (h1 : (assignEach [.Tuple [.Name x px, .Name y py] kt pt] X.env).map (·.2) = [assign (.Tuple [.Name x px, .Name y py] kt pt) X.env] := by rfl)
    (hn : (assignEach [.Name x px, .Name y py] X.env).length = 2 := by rfl) (hst : (assignEach [.Name x px, .Name y py] X.env).findIdx? (·.1) = none := by rfl)
    (hc1 : (assignEach [.Name x px, .Name y py] X.env).map (·.2) = assign (.Name x px) X.env :: (assignEach [.Name y py] X.env).map (·.2) := by rfl) (hc2 : (assignEach [.Name y py] X.env).map (·.2) = assign (.Name y py) X.env :: (assignEach [] X.env).map (·.2) := by rfl)
    (he1 : starEach [a, b] X.env = (false, eval a X.env) :: starEach [b] X.env := by rfl) (he2 : starEach [b] X.env = (false, eval b X.env) :: starEach [] X.env := by rfl) :
    SD X fr ns c Wb W (j :: W) (.Assign [.Tuple [.Name x px, .Name y py] kt pt] (.Tuple [a, b] k2 pt2) spos) (sParPO i j f g) := by
  refine ⟨fun pins s σ H E I q => (ps_asg (pe_tup (pa_cons ha (pa_cons hb pa_nil he2) he1)) (pg_tup hc (pgs_cons (pg_name hN hi hx hfx) (pgs_cons (pg_name hN hj hy hfy) pgs_nil hc2) hc1) hn hst) hs hw h1).run pins s σ H E I ?_⟩
  have hlj : j < σ.length := by rw [I.len]; exact (List.getElem?_eq_some_iff.mp hj).1
  obtain ⟨Hs0, H0, Hs, ρ, n, o, n', R, e, q⟩ := q
  unfold sParPO at e
  split at e
  · rename_i ds n1 h1
    split at e
    · rename_i es n2 h2
      cases e
      refine ⟨Hs0, H0, Hs, ρ, n, ds, n1, R, h1, fun v Hs1 H1 e1 c1 r1 => ?_⟩
      have R1 := R.step e1 c1
      refine ⟨Hs0, H0, Hs1, ρ, n1, es, _, R1, h2, fun p vs Hs2 H2 e2 c2 p0 p1 p2 r2 => ?_⟩
      have R2 := R1.step e2 c2
      have hp0 := R1.none0 p0
      refine ⟨by show 2 ≤ sizeLine; decide, fun p' hp' => ?_⟩
      have e3 := ExtP.new1 (o := .tup [v, .ref p]) R2.sub hp'
      have c3 := e3.cel c2
      have x3 : Ext c Hs2 H2 _ _ := e3.ext
      have R3 := R2.step x3 c3
      have hp3 := x3.al p _ hp0.2 p2
      have hs3 := x3.keep0 p1 (by rw [p2]; exact fun z => nomatch z)
      have R4 := R3.set_plain (i := i) hiW ((r1.same e2.st).same x3.st)
      have R5 := R4.own1 (i := j) hjW (by rw [List.length_set]; exact hlj) hp0.1 hp0.2 hs3 hp3 (RpAll.same x3.st _ _ r2) fun l hl => by
        rw [List.getElem?_set_ne fun z : i = l => hiW (z ▸ hl)]
        exact R1.notOwn p0 l hl
      exact ⟨p', [v, .ref p], rfl, SqT.of upd_same, rfl, v, [.ref p], rfl, .ref p, [], rfl, rfl, q _ _ _ (Same.trans' e1.st (Same.trans' e2.st x3.st)) R5⟩
    · cases e
  · cases e
end
end DL
/-! DMa: max of four. -/
namespace PySem
open Sem (wp)
section
variable {prog : Program} {w : World} {A : Around} {E : Value → Shared → Prop} {s : Shared}
theorem F.args_max4 (a b c d : Value) : argsOk "max" ⟨[a, b, c, d], []⟩ := by unfold argsOk; kernel_rfl
theorem call_max_four {a b c d : Value} {Q : Value → Shared → Prop}
    (h : wpAny (model prog w) A.in1 (pyIter (.ref s.heap.objs.size)) (fun it s₂ => ∃ I fp wr n P St bt, it = .ref I ∧ Walks prog w A.in1 I fp wr n P St ∧ St 0 s₂.heap ∧ (∀ b ∈ fp, b < s₂.heap.objs.size) ∧ 0 < n ∧ CmpOf prog w A.in1 .Gt P bt ∧
      ∀ v h' tk, P (argBest bt (n - 1)) v → (∀ b o, b ∉ wr → s₂.heap.get? b = some o → h'.get? b = some o) → Q v { s₂ with heap := h', toks := tk }) E
      { s with heap := s.heap.push { cls := .type "tuple", data := .seq #[a, b, c, d] } }) :
    wpAny (model prog w) A (call (.builtin "max") [a, b, c, d]) Q E s := by
  have hname : (toString "max" ++ toString ".loop" : String) = "max.loop" := by decide
  refine call_function_tree F.kind_max F.plain_max F.entry_max (F.args_max4 _ _ _ _) ?_
  show wpAny _ A.in1 (Builtin.Builtins.bindParams "max" ["key", "default"] 0 ⟨[], []⟩ >>= _) _ _ s
  refine wpAny_bind (wpAny_of_eq (show Builtin.Builtins.bindParams "max" ["key", "default"] 0 ⟨[], []⟩ = pure [none, none] from rfl) ?_)
  show wpAny _ A.in1 (newTuple [a, b, c, d] >>= _) _ _ s
  refine wpAny_bind (wpAny_newObj_type ?_)
  refine wpAny_bind (wpAny_mono h (fun it s₂ h₂ => ?_) fun _ _ e => e)
  obtain ⟨I, fp, wr, n, P, St, bt, rfl, W, hst, hfp, hn, hcmp, hQ⟩ := h₂
  refine wpAny_bind (wpAny_newObj_type ?_)
  have hSf : s₂.heap.objs.size ∉ fp := fun hm => Nat.lt_irrefl _ (hfp _ hm)
  rw [hname]
  refine wpAny_pure ⟨plainId_quiet F.plain_max_loop _, codeAny_max_loop_first W bt hcmp s₂.heap.objs.size hSf hn (W.frame _ _ _ hst fun b _ o e => Heap.get?_push_of_some _ e) (Heap.get?_push_size _ rfl) fun v h' tk hP hk => ?_⟩
  exact hQ v h' tk hP fun b o hbw e => hk b o hbw (Nat.ne_of_lt (Heap.lt_size e)) (Heap.get?_push_of_some _ e)
def max4 (a b c d : Int) : Int :=
  if d > (if c > (if b > a then b else a) then c else (if b > a then b else a)) then d else (if c > (if b > a then b else a) then c else (if b > a then b else a))
theorem max_four_ints {a b c d : Int} {t u x y : Tok} {Q : Value → Shared → Prop} (hh : A.handled = none)
    (h : ∀ h' tk z, (∀ d o, s.heap.get? d = some o → h'.get? d = some o) → Q (.int (max4 a b c d) z) { s with heap := h', toks := tk }) :
    wpAny (model prog w) A (call (.builtin "max") [.int a t, .int b u, .int c x, .int d y]) Q E s := by
  have hT : (s.heap.push { cls := .type "tuple", data := .seq #[.int a t, .int b u, .int c x, .int d y] }).IsTuple s.heap.objs.size (intItems #[(a, t), (b, u), (c, x), (d, y)]) := ⟨_, Heap.get?_push_size _ rfl, rfl, 0, by simp [intItems]⟩
  refine call_max_four (wpAny_pyIter_tuple hT ?_)
  have hsz : (s.heap.push { cls := .type "tuple", data := .seq #[.int a t, .int b u, .int c x, .int d y] }).objs.size = s.heap.objs.size + 1 := Heap.size_push ..
  refine ⟨_, [_, s.heap.objs.size], [_], _, _, _, _, rfl, Walks.tuple (A := A.in1) hh _ s.heap.objs.size (by rw [hsz]; exact Nat.ne_of_lt (Nat.lt_succ_self _)) (intItems #[(a, t), (b, u), (c, x), (d, y)]),
    ⟨⟨_, Heap.get?_push_size _ rfl, rfl, rfl⟩, hT.push _⟩, fun e hd => ?_, by simp [intItems], CmpOf.ints_gt (numAt #[(a, t), (b, u), (c, x), (d, y)]) (fun _ _ => intItems_at), fun v h' tk hP hk => ?_⟩
  · show e < ((s.heap.push _).push _).objs.size
    rw [Heap.size_push, hsz]
    rcases List.mem_cons.mp hd with rfl | hd
    · rw [hsz]; exact Nat.lt_succ_self _
    · rcases List.mem_cons.mp hd with rfl | hd
      · exact Nat.lt_succ_of_lt (Nat.lt_succ_self _)
      · cases hd
  · have hold : ∀ d o, s.heap.get? d = some o → h'.get? d = some o := fun d o e => by
      refine hk d o (fun hm => ?_) (Heap.get?_push_of_some _ (Heap.get?_push_of_some _ e))
      rcases List.mem_cons.mp hm with e1 | hm
      · have := Heap.lt_size e; rw [e1, hsz] at this; exact Nat.lt_irrefl _ (Nat.lt_of_succ_lt this)
      · cases hm
    have hP' : (intItems #[(a, t), (b, u), (c, x), (d, y)])[argBest (fun i j => decide (numAt #[(a, t), (b, u), (c, x), (d, y)] i > numAt #[(a, t), (b, u), (c, x), (d, y)] j)) 3]? = some v := by
      have hsz2 : (intItems #[(a, t), (b, u), (c, x), (d, y)]).size - 1 = 3 := by simp [intItems]
      rw [← hsz2]; exact hP
    obtain ⟨z, hz⟩ := intItems_at hP'
    have e : numAt #[(a, t), (b, u), (c, x), (d, y)] (argBest (fun i j => decide (numAt #[(a, t), (b, u), (c, x), (d, y)] i > numAt #[(a, t), (b, u), (c, x), (d, y)] j)) 3) = max4 a b c d := by
      unfold max4
      by_cases h1 : b > a
      · by_cases h2 : c > b
        · by_cases h3 : d > c <;> simp [argBest, numAt, h1, h2, h3]
        · by_cases h3 : d > b <;> simp [argBest, numAt, h1, h2, h3]
      · by_cases h2 : c > a
        · by_cases h3 : d > c <;> simp [argBest, numAt, h1, h2, h3]
        · by_cases h3 : d > a <;> simp [argBest, numAt, h1, h2, h3]
    rw [hz, e]
    exact h h' tk z hold
end
end PySem
namespace DL
open PySem PySem.Spec PyProof.Rows L2
section
variable {X : Cx}
theorem call_max4 (hc : X.calm = true) : CallR X (.builtin "max") (fun xs H Q => ∃ i j k l, xs = [.int i, .int j, .int k, .int l] ∧ Q (.int (max4 i j k l)) H) := by
  intro pins s σ H xs us Q I r h
  obtain ⟨i, j, k, l, rfl, q⟩ := h
  cases r with
  | cons r1 r2 => cases r2 with
    | cons r2 r3 => cases r3 with
      | cons r3 r4 => cases r4 with
        | cons r4 r5 =>
          cases r5
          obtain ⟨t, rfl⟩ := r1
          obtain ⟨t2, rfl⟩ := r2
          obtain ⟨t3, rfl⟩ := r3
          obtain ⟨t4, rfl⟩ := r4
          exact max_four_ints (I.ok.hd hc) fun h' tk z hk => ⟨.int (max4 i j k l), H, I.kept hk, ⟨z, rfl⟩, q⟩
end
def hMax4 : List D → Option D
  | [.int i, .int j, .int k, .int l] => some (.int (max4 i j k l))
  | _ => none
theorem cb_max4 {K : PySem.W.Frag} : CB K (fun xs H Q => ∃ i j k l, xs = [.int i, .int j, .int k, .int l] ∧ Q (.int (max4 i j k l)) H) hMax4 := by
  intro ns c Hs H vs ds z Q s r h q
  unfold hMax4 at h
  split at h
  · cases h
    cases r with
    | cons r1 r2 => cases r2 with
      | cons r2 r3 => cases r3 with
        | cons r3 r4 => cases r4 with
          | cons r4 r5 =>
            cases r5
            rw [r1.int, r2.int, r3.int, r4.int]
            exact ⟨_, _, _, _, rfl, q _ Hs H (ExtP.refl s) (.int _)⟩
  · cases h
end DL
/-! DMb: sorted of a tuple. -/
namespace PySem.W
open PySem PySem.Spec PyProof.Rows PySem.Calls
section
variable {prog : Program} {w : World} {A : Around} {E : Value → Shared → Prop} {s : Shared}
theorem collect_tuple {l : Addr} {vs : List Value} {Q : List Value → Shared → Prop} (hl : s.heap.IsTuple l vs.toArray)
    (h : Q vs { s with heap := (s.heap.push (seqObj "list" #[] 0)).update s.heap.objs.size (Obj.mapSeq (· ++ vs.toArray)) }) (hsz : vs.length ≤ sizeLine) :
    wpAny (model prog w) A (collect (.ref l)) Q E s := by
  obtain ⟨o, ho, hc, n, hd⟩ := id hl
  unfold collect
  refine wpAny_bind (wpAny_runValue (codeAny_builtin entry_proto_collect' ?_))
  show wpAny _ _ (do again (.builtin "list.__iadd__" ⟨[← newList [], .ref l], []⟩)) _ _ s
  refine wpAny_bind (wpAny_newList (wpAny_pure ⟨Code.quiet_builtin _ (by decide +kernel), codeAny_builtin entry_list_iadd' ?_⟩))
  show wpAny _ _ (Builtin.List.listExtendWith (.ref s.heap.objs.size) (.ref l) (.ref s.heap.objs.size)) _ _ { s with heap := s.heap.push (seqObj "list" #[] 0) }
  unfold Builtin.List.listExtendWith
  have ho' : (s.heap.push (seqObj "list" #[] 0)).get? l = some o := Heap.get?_push_of_some _ ho
  refine wpAny_bind (wpAny_typeOf (T := "tuple") ⟨o, ho', hc⟩ ?_)
  have ht : (Value.type "tuple" == Value.type "tuple") = true := by rfl
  rw [if_pos (by rw [ht]; simp)]
  refine wpAny_bind (listItems_at ho' hd ?_)
  refine wpAny_bind (listItems_at (xs := #[]) (n := 0) (Heap.get?_push_size _ rfl) rfl ?_)
  rw [if_neg (by simp)]
  refine wpAny_bind (listUpdate_at (xs := #[]) (n := 0) (Heap.get?_push_size _ rfl) rfl ?_ (Nat.zero_le _) (by show (#[] ++ vs.toArray).size ≤ sizeLine + 1; simp only [Array.size_append, List.size_toArray, List.length_nil]; omega))
  refine wpAny_pure ?_
  show wpAny (model prog w) A (do
      let o ← load s.heap.objs.size
      match o.data with
      | .seq xs _ => pure xs.toList
      | _ => unsupported "internal:collect") Q E { s with heap := (s.heap.push (seqObj "list" #[] 0)).update s.heap.objs.size (Obj.mapSeq (· ++ vs.toArray)) }
  refine wpAny_bind (wpAny_load (get?_update_seq (Heap.get?_push_size _ rfl) _) ?_)
  show wpAny _ _ (pure ((#[] : Array Value) ++ vs.toArray).toList) Q E _
  rw [show ((#[] : Array Value) ++ vs.toArray).toList = vs by simp]
  exact wpAny_pure h
theorem sortedT_of_sort {l : Addr} {vs : List Value} {kw : List (Str × Value)} {Q : Value → Shared → Prop} (hl : s.heap.IsTuple l vs.toArray) (hL : vs.length ≤ sizeLine) (ha1 : argsOk "sorted" ⟨[.ref l], kw⟩) (ha2 : ∀ x, argsOk "list.sort" ⟨[.ref x], kw⟩)
    (body : ∀ E' : Value → Shared → Prop, wpAny (model prog w) A.in1.in1 (Builtin.«list.sort» ⟨[.ref (s.heap.objs.size + 1)], kw⟩) (fun f s' => f = .done (.ret .none) ∧ Q (.ref (s.heap.objs.size + 1)) s') E' { s with heap := copyHeap s.heap vs }) :
    wpAny (model prog w) A (call (.builtin "sorted") [.ref l] kw) Q E s := by
  refine call_function_entry_kw kind_sorted plain_sorted entry_sorted ha1 ?_
  unfold Builtin.«sorted»
  refine wpAny_bind (m := checkCount "sorted" 1 1 _) (wpAny_pure ?_)
  refine wpAny_bind (collect_tuple hl ?_ hL)
  refine wpAny_bind (wpAny_newList ?_ hL)
  have hsz : ((s.heap.push (seqObj "list" #[] 0)).update s.heap.objs.size (Obj.mapSeq (· ++ vs.toArray))).objs.size = s.heap.objs.size + 1 := by
    rw [Heap.size_update, size_push']
  show wpAny _ _ _ _ _ { s with heap := copyHeap s.heap vs }
  rw [hsz]
  refine wpAny_bind (wpAny_holding (wpAny_call_entry_kw slot_list_sort ⟨_, copyHeap_at s.heap vs, rfl⟩ entry_list_sort ?body (ha2 _)))
  case body =>
    show wpAny (model prog w) A.in1.in1 (Builtin.«list.sort» ⟨[.ref (s.heap.objs.size + 1)], kw⟩) _ _ _
    refine wpAny_mono (body _) (fun f s' hf => ?_) fun _ _ e => e
    obtain ⟨rfl, hq⟩ := hf
    exact ⟨_, rfl, wpAny_pure ⟨_, rfl, hq⟩⟩
theorem sortedT_vals {κ : PyProof.Rows.KeyKind} {l : Addr} {vs : List Value} {Q : Value → Shared → Prop} (hl : s.heap.IsTuple l vs.toArray) (S : SortsAt prog w A.in1.in1 { s with heap := sortingHeap (copyHeap s.heap vs) (s.heap.objs.size + 1) vs } κ vs) (hL : vs.length ≤ sizeLine)
    (h : Q (.ref (s.heap.objs.size + 1)) { s with heap := sortedAll s.heap vs (sortVals κ false vs vs).toArray }) : wpAny (model prog w) A (call (.builtin "sorted") [.ref l]) Q E s :=
  sortedT_of_sort hl hL (args_sorted1 _) (fun _ => args_list_sort _) fun _ => list_sort_vals (s := { s with heap := copyHeap s.heap vs }) (copyHeap_at s.heap vs) S hL ⟨rfl, h⟩
theorem sortedT_data {vs : List Value} {bs : List PyData} {R : Value → PyData → Prop} {l : Addr} {Q : Value → Shared → Prop} (hl : s.heap.IsTuple l vs.toArray) (e : EachIs R vs bs) (er : EachIs (fun v b => ∃ as, Reads s.heap v (id b) as) vs bs) (hal : AllAlike (bs.map id)) (hk : Sortable (bs.map id)) (hL : bs.length ≤ sizeLine)
    (hu : ∀ b, b ∈ bs → A.units + 2 + (id b).depth < cLine) (h : ∀ out, out.length = bs.length → EachIs R out (bs.mergeSort (dataLe false id)) → Q (.ref (s.heap.objs.size + 1)) { s with heap := sortedAll s.heap vs (List.toArray out) }) :
    wpAny (model prog w) A (call (.builtin "sorted") [.ref l]) Q E s := by
  have er' : EachIs (fun v b => ∃ as, Reads (sortingHeap (copyHeap s.heap vs) (s.heap.objs.size + 1) vs) v (id b) as) vs bs := er.mono fun _ _ ⟨as, r⟩ => ⟨as, PyProof.Rows.Reads.keeps (fun _ _ => sorting_copy_old) r⟩
  exact sortedT_vals hl (SortsAt.data (s := { s with heap := sortingHeap (copyHeap s.heap vs) (s.heap.objs.size + 1) vs }) (each_map (R := fun v d => ∃ as, Reads (sortingHeap (copyHeap s.heap vs) (s.heap.objs.size + 1) vs) v d as) id er') hal hk (bound_map hu)) (by rw [e.length]; exact hL)
    (h _ (by rw [sortVals_length false rfl]; exact e.length) (sortVals_data false e er' hal))
end
end PySem.W
namespace DL
open PySem PySem.Spec PyProof.Rows L2
section
variable {X : Cx} {ns : List Int} {c : Md} {W : List Nat} {a : Expr} {A : DEnv → M (List D)} {pos p : Pos}
def hSortT : List D → Option D
  | [.tuple ds] => if sortOK ds = true then some (.list (ds.mergeSort (PySem.W.dataLe false id))) else none
  | _ => none
def rSortT (K : PySem.W.Frag) : List V → Hp → VK → Prop := fun vs H Q => ∃ (a : Addr) (xs : List V) (ds : List D) (Hs : Hp), vs = [V.ref a] ∧ SqT K H a xs ∧ Same Hs H ∧ RpAll K Hs xs ds ∧ sortOK ds = true ∧
  ∀ (ws : List V) (p : Addr), RpAll K Hs ws (ds.mergeSort (PySem.W.dataLe false id)) → H p = none → Q (.ref p) (upd H p (.lst ws))
theorem cr_sortT (hu : X.A.units + 64 < cLine) : CallR X (.builtin "sorted") (rSortT X.K) := by
  intro pins s σ H vs us Q I r h
  obtain ⟨a, xs, ds, Hs, rfl, hs, sm, rp, ok, q⟩ := h
  obtain ⟨its, rv, hl, _⟩ := I.tuple hs
  rw [Vals.ref1 r]
  unfold sortOK at ok
  simp only [Bool.and_eq_true, decide_eq_true_eq] at ok
  obtain ⟨⟨⟨o1, o2⟩, o3⟩, o4⟩ := ok
  have e := eachR rp rv
  have er : PySem.W.EachIs (fun v b => ∃ as, Reads s.heap v (id b) as) its ds := e.mono fun u d ⟨w, h1, h2⟩ => Dp.reads I d w u (Rp.dp d w (Rp.same sm d w h2)) h1
  have hal : PySem.W.AllAlike (ds.map id) := by
    rw [List.map_id]
    intro d hd d' hd'
    exact List.all_eq_true.mp (List.all_eq_true.mp o1 d hd) d' hd'
  have hk : PySem.W.Sortable (ds.map id) := by
    rw [List.map_id]
    rw [Bool.or_eq_true] at o2
    rcases o2 with o2 | o2
    · refine .inl fun d hd => ?_
      have := List.all_eq_true.mp o2 d hd
      unfold isTupN at this
      split at this
      · exact ⟨_, _, rfl⟩
      · cases this
    · refine .inr fun d hd => ?_
      have := List.all_eq_true.mp o2 d hd
      unfold isPlainI at this
      split at this
      · cases this
      · cases this
      · rename_i h1 h2
        exact ⟨h1, h2⟩
  refine PySem.W.sortedT_data hl e er hal hk (by rw [LIM_eq]; exact o4) (fun b hb => ?_) fun out h1 h2 => ?_
  · have := decide_eq_true_eq.mp (List.all_eq_true.mp o3 b hb)
    show X.A.units + 2 + b.depth < cLine
    omega
  · obtain ⟨ws, w1, w2⟩ := eachW h2
    obtain ⟨ep, he'⟩ := PyProof.Rows.sortedAll_at s.heap its out.toArray
    have hlen : ws.length ≤ sizeLine := by
      rw [w2.length, List.length_mergeSort]
      rw [LIM_eq]; exact o4
    exact ⟨.ref _, upd H (s.heap.objs.size + 1) (.lst ws), I.laid (t' := s.toks) (fun _ _ => PyProof.Rows.sortedAll_old) (Nat.le_succ _) ⟨hlen, out, ep, w1, he'⟩, rfl, q ws _ w2 (I.hok.fresh (Nat.le_succ _))⟩
theorem fd_sortedT (hu : X.A.units + 64 < cLine) (hg : Gl X "sorted") (hm : X.mg "sorted" = none) (ha : AD X ns c W [a] A) (hv : bootBuiltins "sorted" = some (.builtin "sorted") := by decide +kernel)
    (he : starEach [a] X.env = (false, eval a X.env) :: starEach [] X.env := by rfl) (hpl : (backTo pos (starEach [] X.env)).any (·.1) = false := by rfl) : FD X ns c W (.Call (.Name "sorted" p) [a] [] pos) (dUnA hSortT A) := by
  refine pe_weak (pe_callB (cr_sortT hu) hg hm hv ha (by decide) (by decide) he hpl) fun σ H Q q => ?_
  obtain ⟨Hs0, H0, Hs, ρ, n, z, n', R, e, q⟩ := q
  obtain ⟨ds, h1, h2⟩ := dUnA_some e
  refine ⟨Hs0, H0, Hs, ρ, n, ds, n', R, h1, fun vs Hs1 H1 e1 c1 r1 => ?_⟩
  have R1 := R.step e1 c1
  unfold hSortT at h2
  split at h2
  · obtain ⟨ok, h3⟩ := Option.some_of_if h2
    cases h3
    obtain ⟨v, rfl, rv⟩ := pr1 r1
    obtain ⟨a, xs, rfl, t1, t2⟩ := rv.tuple
    exact ⟨a, xs, _, Hs1, rfl, Same.seqT R1.sub t1, R1.sub, t2, ok, fun ws l rw' hl => Rel.newL R1 e1 c1 q hl rw'⟩
  · cases h2
theorem hSortT_lst : fLst (dUnA hSortT A) = dUnA hSortT A := by
  funext ρ n
  unfold fLst
  cases e : dUnA hSortT A ρ n with
  | none => rfl
  | some q =>
    obtain ⟨d, n'⟩ := q
    obtain ⟨y, _, h2⟩ := dUnA_some e
    unfold hSortT at h2
    split at h2
    · obtain ⟨ok, h3⟩ := Option.some_of_if h2
      cases h3
      rfl
    · cases h2
theorem ed_sortedT (hu : X.A.units + 64 < cLine) (hg : Gl X "sorted") (hm : X.mg "sorted" = none) (ha : AD X ns c W [a] A) (hv : bootBuiltins "sorted" = some (.builtin "sorted") := by decide +kernel)
    (he : starEach [a] X.env = (false, eval a X.env) :: starEach [] X.env := by rfl) (hpl : (backTo pos (starEach [] X.env)).any (·.1) = false := by rfl) : ED X ns c W (.Call (.Name "sorted" p) [a] [] pos) (dUnA hSortT A) := by
  have := ed_fresh (fd_sortedT (p := p) (pos := pos) hu hg hm ha hv he hpl)
  rw [hSortT_lst] at this
  exact this
end
end DL
/-! DMc: range(a, b) kept as a value, and walked. -/
namespace DL
open PySem PySem.Spec PyProof.Rows L2
section
variable {X : Cx} {ns : List Int} {c : Md} {W : List Nat} {a b e tg : Expr} {f : DEnv → M D} {A : DEnv → M (List D)} {pos p : Pos}
def hRange2 : List D → Option D
  | [.int i, .int j] => some (mkRg i j)
  | _ => none
theorem ed_range2 (hg : Gl X "range") (hm : X.mg "range" = none) (ha : AD X ns c W [a, b] A)
    (he : starEach [a, b] X.env = (false, eval a X.env) :: starEach [b] X.env := by rfl) (hpl : (backTo pos (starEach [b] X.env)).any (·.1) = false := by rfl) : ED X ns c W (.Call (.Name "range" p) [a, b] [] pos) (dUnA hRange2 A) := by
  refine pe_weak (pe_callTy cr_range2 hg hm boot_range ha (by decide) (by decide) he hpl) fun σ H Q q => ?_
  obtain ⟨Hs0, H0, Hs, ρ, n, z, n', R, e, q⟩ := q
  obtain ⟨ds, h1, h2⟩ := dUnA_some e
  refine ⟨Hs0, H0, Hs, ρ, n, ds, n', R, h1, fun vs Hs1 H1 e1 c1 r1 => ?_⟩
  have R1 := R.step e1 c1
  unfold hRange2 at h2
  split at h2
  · rename_i i j
    cases h2
    obtain ⟨v, w, rfl, rv, rw'⟩ := pr2 r1
    refine ⟨i, j, by rw [rv.int, rw'.int], fun p hp => ?_⟩
    have e2 := ExtP.new1 (o := .rng i j) R1.sub hp
    exact q _ _ _ (e1.trans c1 e2.ext) (e2.cel c1) (.inr (.inr (.inr (.inr ⟨p, _, _, _, rfl, .inl ⟨upd_same, .inl ⟨i, j, rfl, rfl, rfl⟩⟩, rfl⟩))))
  · cases h2
theorem SRep.rng {K : PySem.W.Frag} {H : Hp} {v : V} {i j : Int} (h : SRep K ns c H v (mkRg i j)) : ∃ a, v = .ref a ∧ H a = some (.rng i j) := by
  rcases h with h | ⟨h, _⟩ | ⟨h, _⟩ | ⟨_, _, _, _, _, _, _, _, _, _, h⟩ | ⟨a, o, x, r, h1, ⟨h2, sp⟩ | ⟨hx, _⟩, h⟩
  · cases h
  · cases h
  · cases h
  · cases h
  rotate_left
  · cases h
    cases hx
  · cases h
    rcases sp with ⟨lo, hi, e1, e2, e3⟩ | ⟨_, _, z, _⟩
    · cases e2
      cases e3
      rw [e1] at h2
      exact ⟨a, h1, h2⟩
    · cases z
def iRngV (tl : TE) : TI := fun σ H R => tl σ H fun x H1 => ∃ a lo hi, x = .ref a ∧ H1 a = some (.rng lo hi) ∧ (-(2 ^ 62) ≤ lo ∧ lo < 2 ^ 62 ∧ -(2 ^ 62) ≤ hi ∧ hi < 2 ^ 62) ∧ R (Itr lo (hi - lo).toNat) H1
theorem pi_rngV {tl : TE} (hl : PE X e tl) : PI X tg e (iRngV tl) := by
  refine ⟨fun pins s σ H R I h => ?_⟩
  refine thn (hl.run pins s σ H _ I h) fun v s1 ⟨x, H1, I1, r1, q1⟩ => ?_
  obtain ⟨a, lo, hi, rfl, hq, ⟨b1, b2, b3, b4⟩, q⟩ := q1
  cases r1
  have ho := I1.hok a _ hq
  obtain ⟨t, u, v, ho⟩ := ho
  refine wpAny_pyIter_range (a := lo) (b := hi) (c := 1) (t := t) (u := u) (v := v) ho (small_one b1 b2 b3 b4) ?_
  refine pi_one (tk := s1.toks) I1 _ (turn_range _ lo (hi - lo).toNat) ?_ q
  have e1 : lo + ((0 : Nat) : Int) * 1 = lo := by simp
  have e2 : (((hi - lo).toNat : Nat) : Int) - ((0 : Nat) : Int) = Builtin.Range.rangeSize lo hi 1 := by rw [rangeSize_one]; split <;> omega
  show IsRangeIter _ _ (lo + ((0 : Nat) : Int) * 1) ((((hi - lo).toNat : Nat) : Int) - ((0 : Nat) : Int)) 1
  rw [e1, e2]
  exact Heap.get?_push_size _ rfl
def iRV (f : DEnv → M D) : DEnv → M (List D) := fun ρ n =>
  match f ρ n with
  | some (.dict [(.none, .int i), (.none, .int j)], n') => if -(2 ^ 62) ≤ i ∧ i < 2 ^ 62 ∧ -(2 ^ 62) ≤ j ∧ j < 2 ^ 62 then some (rangeD i (j - i).toNat, n') else none
  | _ => none
theorem id_rngV (h : ED X ns c W e f) : ID X ns c W tg e (iRV f) := by
  refine pi_weak (pi_rngV h) fun σ H R q => ?_
  obtain ⟨Hs0, H0, Hs, ρ, n, ds, n', r, e, q⟩ := q
  unfold iRV at e
  split at e
  · rename_i i j n1 h1
    obtain ⟨p1, e'⟩ := Option.some_of_if e
    cases e'
    refine ⟨Hs0, H0, Hs, ρ, n, _, _, r, h1, fun v Hs' H' e1 c1 r1 => ?_⟩
    obtain ⟨a, rfl, h2⟩ := r1.rng
    exact ⟨a, i, j, rfl, (r.step e1 c1).sub _ _ h2, p1, q _ Hs' H' e1 c1 walkD_range⟩
  · cases e
end
end DL
/-! DMd: set of a list of ints. -/
namespace L2
open PySem PySem.Spec PyProof.Rows
section
variable {P : Program} {w : World} {A : Around} {E : Value → Shared → Prop} {s : Shared}
/-- the new empty set -/
abbrev set0 (w : World) : Obj := { cls := .type "set", dict := none, data := .set #[] 0 (.fresh 0 0 (!w.params.followText "set-order")) }
theorem int_items {items : Array Value} {ks : List Int} (hit : IntsAre items.toList ks) : items.size = ks.length ∧ ∀ (i : Nat) (v : Value), items[i]? = some v → ∃ k t, ks[i]? = some k ∧ v = .int k t := by
  have hz : items.size = ks.length := by simpa using IntsAre.length hit
  refine ⟨hz, fun i v hv => ?_⟩
  have hi : i < ks.length := hz ▸ (Array.getElem?_eq_some_iff.mp hv).1
  obtain ⟨t, e⟩ := PyProof.Rows.IntsAre.int_at hit i v (by simpa using hv)
  have e1 : ks[i]? = some ks[i] := List.getElem?_eq_getElem hi
  exact ⟨ks[i], t, e1, by rw [e, List.getD_eq_getElem?_getD, e1] <;> rfl⟩
set_option maxHeartbeats 3200000 in
theorem setL_call {l : Addr} {items : Array Value} (ks : List Int) {Q : Value → Shared → Prop} (hh : A.handled = none) (hl : s.heap.IsList l items) (hit : IntsAre items.toList ks) (hb : ks.length + 1 < scanBound)
    (h : ∀ (h' : Heap) (tk c : Nat), SetR w h' s.heap.objs.size (fun j => decide (j ∈ ks)) c → c ≤ ks.length → (∀ b o, s.heap.get? b = some o → h'.get? b = some o) → Q (.ref s.heap.objs.size) { s with heap := h', toks := tk }) :
    wpAny (model P w) A (call (.type "set") [.ref l]) Q E s := by
  obtain ⟨hz, hval⟩ := int_items hit
  obtain ⟨cc, tl, hmro⟩ := F.called_set.mro
  have hmade := F.called_set.made
  have hsub := F.called_set.sub
  refine wpAny_call (codeAny_of_tree ?_)
  show wpAny _ _ (callAny (.type "set") _) _ _ _
  refine wpAny_pure ⟨Code.quiet_builtin _ (by decide +kernel), codeAny_builtin F.entry_type_call ?_⟩
  rw [Around.under_plain (weight_type_call_type "set" [.ref l] []) rfl]
  have h1 := F.called_set.notType
  have h2 := F.called_set.canCreate
  have hct := F.typeCall_set_1 (.ref l)
  repeat (any_goals (first | assumption | wp_step))
  refine codeAny_mono (code_set_led1 (.ref l) (E := E) (Q₁ := fun obj s₁ => obj = .ref s.heap.objs.size ∧ s₁ = { s with heap := s.heap.push (set0 w) }) ⟨rfl, rfl⟩) fun r s₁ hr => ?_
  cases r with
  | error e => exact hr
  | ok fl =>
    cases fl with
    | ret obj =>
      obtain ⟨rfl, rfl⟩ := hr
      have hS : (s.heap.push (set0 w)).get? s.heap.objs.size = some (set0 w) := Heap.get?_push_size _ rfl
      have hT : Shared.TypeIs { s with heap := s.heap.push (set0 w) } (.ref s.heap.objs.size) "set" := ⟨_, hS, rfl⟩
      have hli := F.called_set.init.lookup
      have hbi := F.called_set.init.bind (.ref s.heap.objs.size)
      repeat (any_goals (first | assumption | wp_step))
      refine codeAny_mono (codeAny_call_builtin (R := wants (fun r s₂ => r = .none ∧ ∃ h' tk c, s₂ = { s with heap := h', toks := tk } ∧ SetR w h' s.heap.objs.size (fun j => decide (j ∈ ks)) c ∧ c ≤ ks.length ∧
          (∀ b o, s.heap.get? b = some o → h'.get? b = some o)) E) F.called_set.init.plain F.entry_set_init (check_set_init_1 hT ?_)) fun r₂ s₂ hr₂ => ?_
      · have hl1 : (s.heap.push (set0 w)).IsList l items := hl.push _
        obtain ⟨ol, hol, hcl, nl, hdl⟩ := hl
        have hlS : l < s.heap.objs.size := Heap.lt_size hol
        obtain ⟨ocls, odict, odata, oslots⟩ := ol
        simp only at hcl hdl
        subst hcl; subst hdl
        have hol' : (s.heap.push (set0 w)).get? l = some { cls := .type "list", dict := odict, data := .seq items nl, slots := oslots } := Heap.get?_push_of_some _ hol
        have hsls := F.sub_list_set
        have hslf := F.sub_list_frozenset
        have hne : (Value.type "list" == Value.type "dict") = false := by decide
        unfold Builtin.«set.__init__» noKeywords Builtin.Frozenset.updateFrom
        generalize hPI : pyIter = PI
        wp_walk
        subst hPI
        refine wpAny_pyIter_list hl1 ?_
        refine wpAny_bind (wpAny_runValue ?_)
        have hh3 : A.in1.in1.in1.handled = none := by simp [hh]
        have hsz : (s.heap.push (set0 w)).objs.size = s.heap.objs.size + 1 := Heap.size_push ..
        have hnl : l ≠ (s.heap.push (set0 w)).objs.size := fun z => absurd (z.trans hsz) (Nat.ne_of_lt (Nat.lt_succ_of_lt hlS))
        have hSf : s.heap.objs.size ∉ [(s.heap.push (set0 w)).objs.size, l] := by
          intro z
          rcases List.mem_cons.mp z with z | z
          · exact absurd (z.trans hsz) (Nat.ne_of_lt (Nat.lt_succ_self _))
          · exact absurd (List.mem_singleton.mp z) (Nat.ne_of_gt hlS)
        refine set_update_ints ((Walks.list hh3 _ l hnl items).toS) s.heap.objs.size hSf ks hz hb hval (items.size - 0) 0 _ (by omega) (Nat.zero_le _)
          ⟨⟨_, Heap.get?_push_size _ rfl, rfl, rfl⟩, (hl1.push _)⟩ ⟨0, Nat.le_refl 0, setR_new_at (Heap.get?_push_of_some _ hS)⟩ ?hR
        case hR =>
          intro s' c' hm hc' hS'
          obtain ⟨h', g2, d', tk', os'⟩ := s'
          have eg : g2 = s.gens := hm.gens
          have ed : d' = s.drawn := hm.drawn
          have eo : os' = s.os := hm.os
          subst eg; subst ed; subst eo
          show wpAny _ _ _ _ _ _
          refine wpAny_pure ?_
          show wpAny _ _ (ret Value.none) _ _ _
          rw [hz] at hc'
          refine wpAny_pure ⟨rfl, h', tk', c', rfl, hS', hc', fun b o e => ?_⟩
          have hb0 : b < s.heap.objs.size := Heap.lt_size e
          refine hm.heap b o (fun z => ?_) (Heap.get?_push_of_some _ (Heap.get?_push_of_some _ e))
          rcases List.mem_cons.mp z with z | z
          · exact absurd z (Nat.ne_of_lt hb0)
          · exact absurd ((List.mem_singleton.mp z).trans hsz) (Nat.ne_of_lt (Nat.lt_succ_of_lt hb0))
      · cases r₂ with
        | error e => exact hr₂
        | ok fl₂ =>
          cases fl₂ with
          | ret r =>
            obtain ⟨rfl, h', tk, c', rfl, a, b, d⟩ := hr₂
            repeat (any_goals (first | assumption | wp_step))
            exact h h' tk c' a b d
          | _ => exact hr₂.elim
    | _ => exact hr.elim
end
end L2
/-! DMe: sorted(set([a, b])). -/
namespace L2
open PySem PySem.Spec PyProof.Rows
section
variable {X : Cx}
/-- set(l), l a list of few ints -/
def rSetI (K : PySem.W.Frag) (w : World) : List V → Hp → VK → Prop := fun vs H Q => ∃ (a : Addr) (ks : List Int), vs = [V.ref a] ∧ SqL K H a (ks.map V.int) ∧ ks.length < 60 ∧
  ∀ p c, c ≤ ks.length → H p = none → Q (.ref p) (upd H p (SetO w p (fun j => decide (j ∈ ks)) c))
theorem cr_setI (hc : X.calm = true) : CallR X (.type "set") (rSetI X.K X.w) := by
  intro pins s σ H vs us Q I r h
  obtain ⟨a, ks, rfl, hs, hk, q⟩ := h
  obtain ⟨its, rv, hl, _⟩ := I.list hs
  rw [Vals.ref1 r]
  have hsb : 61 < scanBound := by decide
  refine setL_call ks (I.ok.hd hc) hl.isList (by simpa using ints_of_vals rv) (by omega) fun h' tk c hS hc' hk' => ?_
  exact ⟨.ref _, upd H s.heap.objs.size (SetO X.w s.heap.objs.size (fun j => decide (j ∈ ks)) c), I.laid hk' (Nat.le_refl _) (setO_new hS), rfl, q _ c hc' (I.hok.fresh (Nat.le_refl _))⟩
end
end L2
namespace DL
open PySem PySem.Spec PyProof.Rows L2
/-! ### sorted(set([a, b])) -/
theorem asc_one : ∀ {l m : List Int}, l.Pairwise (· < ·) → m.Pairwise (· < ·) → (∀ k, k ∈ l ↔ k ∈ m) → l = m
  | [], [], _, _, _ => rfl
  | [], b :: m, _, _, h => absurd ((h b).mpr List.mem_cons_self) (fun z => nomatch z)
  | a :: l, [], _, _, h => absurd ((h a).mp List.mem_cons_self) (fun z => nomatch z)
  | a :: l, b :: m, h1, h2, h => by
    rw [List.pairwise_cons] at h1 h2
    have e : a = b := by
      have ha := (h a).mp List.mem_cons_self
      have hb := (h b).mpr List.mem_cons_self
      rcases List.mem_cons.mp ha with e | ha
      · exact e
      · rcases List.mem_cons.mp hb with e | hb
        · exact e.symm
        · have := h1.1 b hb
          have := h2.1 a ha
          omega
    subst e
    congr 1
    refine asc_one h1.2 h2.2 fun k => ⟨fun hk => ?_, fun hk => ?_⟩
    · rcases List.mem_cons.mp ((h k).mp (List.mem_cons_of_mem _ hk)) with e | z
      · have := h1.1 k hk
        omega
      · exact z
    · rcases List.mem_cons.mp ((h k).mpr (List.mem_cons_of_mem _ hk)) with e | z
      · have := h2.1 k hk
        omega
      · exact z
def twoS (a b : Int) : List Int := if a < b then [a, b] else if a = b then [a] else [b, a]
theorem twoS_asc (a b : Int) : (twoS a b).Pairwise (· < ·) := by
  unfold twoS
  split
  · simpa
  · split
    · simp
    · have : b < a := by omega
      simpa
theorem twoS_mem (a b k : Int) : k ∈ twoS a b ↔ k ∈ [a, b] := by
  unfold twoS
  split
  · rfl
  · split
    · rename_i h
      subst h
      simp
    · simp
      exact Or.comm
def hSet2 : List D → Option D
  | [.list [.int a, .int b]] => some (.list ((twoS a b).map .int))
  | _ => none
section
variable {X : Cx} {ns : List Int} {c : Md} {W : List Nat} {a : Expr} {A : DEnv → M (List D)} {pos pos2 p p2 : Pos}
theorem rpAll_ints {K : PySem.W.Frag} {H : Hp} : ∀ ks : List Int, RpAll K H (ks.map V.int) (ks.map PyData.int)
  | [] => .nil
  | k :: ks => .cons (.int k) (rpAll_ints ks)
theorem ints_rp {K : PySem.W.Frag} {H : Hp} : ∀ {ks : List Int} {vs : List V}, RpAll K H vs (ks.map PyData.int) → vs = ks.map V.int
  | [], _, h => by cases h; rfl
  | k :: ks, _, h => by
    cases h with
    | cons r t =>
      cases r
      rw [ints_rp t]
      rfl
theorem fd_sortedSet (hc : X.calm = true) (hg : Gl X "sorted") (hm : X.mg "sorted" = none) (hg2 : Gl X "set") (hm2 : X.mg "set" = none) (ha : AD X ns c W [a] A)
    (hv : bootBuiltins "sorted" = some (.builtin "sorted") := by decide +kernel)
    (he2 : starEach [a] X.env = (false, eval a X.env) :: starEach [] X.env := by rfl) (hpl2 : (backTo pos2 (starEach [] X.env)).any (·.1) = false := by rfl)
    (he : starEach [.Call (.Name "set" p2) [a] [] pos2] X.env = (false, eval (.Call (.Name "set" p2) [a] [] pos2) X.env) :: starEach [] X.env := by rfl) (hpl : (backTo pos (starEach [] X.env)).any (·.1) = false := by rfl) :
    FD X ns c W (.Call (.Name "sorted" p) [.Call (.Name "set" p2) [a] [] pos2] [] pos) (dUnA hSet2 A) := by
  have hset := pe_callTy (p := p2) (pos := pos2) (cr_setI hc) hg2 hm2 boot_set ha (by decide) (by decide) he2 hpl2
  refine pe_weak (pe_callB (cr_sortedSet hc) hg hm hv (pa_cons hset pa_nil he) (by decide) (by decide) he hpl) fun σ H Q q => ?_
  obtain ⟨Hs0, H0, Hs, ρ, n, z, n', R, e, q⟩ := q
  obtain ⟨ds, h1, h2⟩ := dUnA_some e
  refine ⟨Hs0, H0, Hs, ρ, n, ds, n', R, h1, fun vs Hs1 H1 e1 c1 r1 => ?_⟩
  have R1 := R.step e1 c1
  unfold hSet2 at h2
  split at h2
  · rename_i x y
    cases h2
    obtain ⟨v, rfl, rv⟩ := pr1 r1
    obtain ⟨l, xs, rfl, h2, r2⟩ := rv.list
    have hx : xs = [x, y].map V.int := ints_rp (ks := [x, y]) r2
    subst hx
    refine ⟨l, [x, y], rfl, SqL.of (R1.sub _ _ h2), (show 2 < 60 by decide), fun s k hk hs => ⟨s, _, k, rfl, upd_same, by have : k ≤ 2 := hk; omega, fun ns' p' a1 a2 a3 hp' => ?_⟩⟩
    have e5 : ns' = twoS x y := asc_one a1 (twoS_asc x y) fun k => by rw [a2 k, decide_eq_true_eq, twoS_mem]
    subst e5
    have e6 := ExtP.new1 (o := SetO X.w s (fun j => decide (j ∈ [x, y])) k) R1.sub hs
    have R2 := R1.stepP e6
    exact Rel.newL R2 (e1.trans c1 e6.ext) (e6.cel c1) q hp' (rpAll_ints _)
  · cases h2
theorem hSet2_lst : fLst (dUnA hSet2 A) = dUnA hSet2 A := by
  funext ρ n
  unfold fLst
  cases e : dUnA hSet2 A ρ n with
  | none => rfl
  | some q =>
    obtain ⟨d, n'⟩ := q
    obtain ⟨y, _, h2⟩ := dUnA_some e
    unfold hSet2 at h2
    split at h2
    · cases h2
      rfl
    · cases h2
theorem ed_sortedSet (hc : X.calm = true) (hg : Gl X "sorted") (hm : X.mg "sorted" = none) (hg2 : Gl X "set") (hm2 : X.mg "set" = none) (ha : AD X ns c W [a] A)
    (hv : bootBuiltins "sorted" = some (.builtin "sorted") := by decide +kernel)
    (he2 : starEach [a] X.env = (false, eval a X.env) :: starEach [] X.env := by rfl) (hpl2 : (backTo pos2 (starEach [] X.env)).any (·.1) = false := by rfl)
    (he : starEach [.Call (.Name "set" p2) [a] [] pos2] X.env = (false, eval (.Call (.Name "set" p2) [a] [] pos2) X.env) :: starEach [] X.env := by rfl) (hpl : (backTo pos (starEach [] X.env)).any (·.1) = false := by rfl) :
    ED X ns c W (.Call (.Name "sorted" p) [.Call (.Name "set" p2) [a] [] pos2] [] pos) (dUnA hSet2 A) := by
  have := ed_fresh (fd_sortedSet (p := p) (pos := pos) (p2 := p2) (pos2 := pos2) hc hg hm hg2 hm2 ha hv he2 hpl2 he hpl)
  rw [hSet2_lst] at this
  exact this
end
end DL
/-! DMf: str of an int, texts joined, split, added; a dict of texts and ints by a comprehension, its get. -/
namespace DL
open PySem PySem.Spec PyProof.Rows L2
section
variable {K : PySem.W.Frag}
/-! ### str(i) -/
def hStr1 : List D → Option D
  | [.int i] => if i.natAbs.log2 < 1920 then some (.str (toString i)) else none
  | _ => none
theorem cb_str : CB K (fun xs H Q => ∃ i, xs = [.int i] ∧ i.natAbs.log2 < 1920 ∧ Q (.str (toString i)) H) hStr1 := by
  intro ns c Hs H vs ds z Q s r h q
  unfold hStr1 at h
  split at h
  · rename_i i
    obtain ⟨p, e⟩ := Option.some_of_if h
    cases e
    obtain ⟨v, rfl, rv⟩ := pr1 r
    exact ⟨i, by rw [rv.int], p, q _ Hs H (ExtP.refl s) (.str _)⟩
  · cases h
/-! ### a + b -/
def hAddS : D → D → Option D
  | .str i, .str j => if i.length + j.length ≤ LIM then some (.str (i ++ j)) else none
  | _, _ => none
theorem r2_addS : R2D K (fun x y H Q => ∃ i j, x = .str i ∧ y = .str j ∧ i.length + j.length ≤ sizeLine ∧ Q (.str (i ++ j)) H) hAddS := by
  intro ns c Hs H x y d e z Q s rx ry hz q
  unfold hAddS at hz
  split at hz
  · rename_i i j
    obtain ⟨p, e⟩ := Option.some_of_if hz
    cases e
    exact ⟨i, j, rx.str, ry.str, by rw [LIM_eq]; exact p, q _ Hs H (ExtP.refl s) (.str _)⟩
  · cases hz
/-! ### lists of texts -/
def strsOf : List D → Option (List Str)
  | [] => some []
  | .str x :: ds => match strsOf ds with
    | some ys => some (x :: ys)
    | none => none
  | _ => none
theorem strsOf_map : ∀ ys : List Str, strsOf (ys.map PyData.str) = some ys
  | [] => rfl
  | y :: ys => by
    show (match strsOf (ys.map PyData.str) with | some zs => some (y :: zs) | none => none) = _
    rw [strsOf_map ys]
theorem strs_rp {H : Hp} : ∀ {ds : List D} {ys : List Str} {vs : List V}, strsOf ds = some ys → RpAll K H vs ds → vs = ys.map V.str
  | [], ys, _, h, r => by
    cases h
    cases r
    rfl
  | d :: ds, ys, _, h, r => by
    cases r with
    | cons r1 r2 =>
      unfold strsOf at h
      split at h
      · rename_i e
        cases e
      · rename_i x ds' e
        cases e
        split at h
        · rename_i zs hz
          cases h
          cases r1
          rw [strs_rp hz r2]
          rfl
        · cases h
      · cases h
theorem rpAll_strs {H : Hp} : ∀ ys : List Str, RpAll K H (ys.map V.str) (ys.map PyData.str)
  | [] => .nil
  | y :: ys => .cons (.str y) (rpAll_strs ys)
end
def hJoin : D → D → Option D
  | .str a, .list ds => match strsOf ds with
    | some ys => if (ys.map (·.length)).sum + ys.length * a.length ≤ 16777216 then some (.str (Txt.join a ys)) else none
    | none => none
  | _, _ => none
def hSplit : D → D → Option D
  | .str a, .str b => if (b.length == 0) = false ∧ a.length + 2 ≤ LIM then some (.list ((Txt.split a b).map .str)) else none
  | _, _ => none
def getT (k : Str) : List (D × D) → D
  | [] => .none
  | (.str x, d) :: r => if x = k then d else getT k r
  | _ :: r => getT k r
def hGet : D → D → Option D
  | .dict ((.none, .bool true) :: r), .str k => some (getT k r)
  | _, _ => none
section
variable {X : Cx} {ns : List Int} {c : Md} {W : List Nat} {o e a : Expr} {f g : DEnv → M D} {A : DEnv → M (List D)} {pos apos p : Pos}
theorem ed_addS (ha : ED X ns c W o f) (hb : ED X ns c W e g) : ED X ns c W (.BinOp o .Add e pos) (dBin hAddS f g) := ed_op op_add_str r2_addS ha hb
theorem ed_join (ho : ED X ns c W o f) (he : ED X ns c W e g) (hs : starEach [e] X.env = [(false, eval e X.env)] := by rfl) (hbase : attributeBase o "join" X.env (eval o X.env) = eval o X.env := by rfl) (hline : (apos.endLine == pos.line) = true := by rfl) :
    ED X ns c W (.Call (.Attribute o "join" apos) [e] [] pos) (dBin hJoin f g) := by
  refine pe_weak (pe_join ho he hs hbase hline) fun σ H Q q => ?_
  obtain ⟨Hs0, H0, Hs, ρ, n, z, n', R, ee, q⟩ := q
  obtain ⟨x, n1, y, h1, h2, h3⟩ := dBin_some ee
  refine ⟨Hs0, H0, Hs, ρ, n, x, n1, R, h1, fun v Hs1 H1 e1 c1 r1 => ?_⟩
  have R1 := R.step e1 c1
  unfold hJoin at h3
  split at h3
  · rename_i s ds
    split at h3
    · rename_i ys hy
      obtain ⟨hz, hz'⟩ := Option.some_of_if h3
      cases hz'
      refine ⟨⟨s, r1.str⟩, Hs0, H0, Hs1, ρ, n1, _, n', R1, h2, fun w Hs2 H2 e2 c2 r2 => ?_⟩
      have R2 := R1.step e2 c2
      obtain ⟨l, xs, rfl, hl, rl⟩ := r2.list
      have hx := strs_rp hy rl
      subst hx
      exact ⟨s, l, ys, r1.str, rfl, .inl (SqL.of (R2.sub _ _ hl)), hz, q _ Hs2 H2 (e1.trans c1 e2) c2 (.inl (.str _))⟩
    · cases h3
  · cases h3
theorem ed_split (ho : ED X ns c W o f) (he : ED X ns c W e g) (hs : starEach [e] X.env = [(false, eval e X.env)] := by rfl) (hbase : attributeBase o "split" X.env (eval o X.env) = eval o X.env := by rfl) (hline : (apos.endLine == pos.line) = true := by rfl) :
    ED X ns c W (.Call (.Attribute o "split" apos) [e] [] pos) (dBin hSplit f g) := by
  refine pe_weak (pe_split ho he hs hbase hline) fun σ H Q q => ?_
  obtain ⟨Hs0, H0, Hs, ρ, n, z, n', R, ee, q⟩ := q
  obtain ⟨x, n1, y, h1, h2, h3⟩ := dBin_some ee
  refine ⟨Hs0, H0, Hs, ρ, n, x, n1, R, h1, fun v Hs1 H1 e1 c1 r1 => ?_⟩
  have R1 := R.step e1 c1
  unfold hSplit at h3
  split at h3
  · rename_i s b
    obtain ⟨⟨hb, hz⟩, hz'⟩ := Option.some_of_if h3
    cases hz'
    refine ⟨⟨s, r1.str⟩, Hs0, H0, Hs1, ρ, n1, _, n', R1, h2, fun w Hs2 H2 e2 c2 r2 => ?_⟩
    have R2 := R1.step e2 c2
    refine ⟨s, b, r1.str, by rw [r2.str], hb, by rw [LIM_eq]; exact hz, fun p hp => ?_⟩
    have e3 := ExtP.new1 (o := .lst ((Txt.split s b).map V.str)) R2.sub hp
    exact q _ _ _ ((e1.trans c1 e2).trans c2 e3.ext) (e3.cel c2) (.inl (.lst upd_same (rpAll_strs _)))
  · cases h3
theorem SRep.tx {K : PySem.W.Frag} {H : Hp} {v : V} {r : List (D × D)} (h : SRep K ns c H v (.dict ((.none, .bool true) :: r))) : ∃ (a : Addr) (kvs : List (Str × Int)), v = .ref a ∧ H a = some (.dK (kvs.map fun p => (Sum.inr p.1, V.int p.2))) ∧ r = kvs.map fun p => (.str p.1, .int p.2) := by
  rcases h with h | ⟨h, _⟩ | ⟨h, _⟩ | ⟨_, _, _, _, _, _, _, _, _, _, h⟩ | ⟨a, o, x, r', h1, ⟨h2, sp⟩ | ⟨hx, _⟩, h⟩
  · cases h
  · cases h
  · cases h
  · cases h
  rotate_left
  · cases h
    cases hx
  · cases h
    rcases sp with ⟨_, _, _, z, _⟩ | ⟨kvs, e1, _, e3⟩
    · cases z
    · rw [e1] at h2
      exact ⟨a, kvs, h1, h2, e3⟩
theorem getT_map (k : Str) : ∀ kvs : List (Str × Int), getT k (kvs.map fun p => (.str p.1, .int p.2)) = match valV (kvs.map fun p => ((Sum.inr p.1 : Int ⊕ Str), V.int p.2)) (Sum.inr k) with
    | some (.int i) => .int i
    | _ => .none
  | [] => rfl
  | p :: kvs => by
    show (if p.1 = k then PyData.int p.2 else getT k (kvs.map fun p => (.str p.1, .int p.2))) = _
    unfold valV
    rw [List.map_cons, List.find?_cons]
    by_cases h : p.1 = k
    · rw [if_pos h]
      have : decide ((Sum.inr p.1 : Int ⊕ Str) = Sum.inr k) = true := decide_eq_true (by rw [h])
      simp only [this]
      rfl
    · rw [if_neg h]
      have : decide ((Sum.inr p.1 : Int ⊕ Str) = Sum.inr k) = false := decide_eq_false fun z => h (Sum.inr.inj z)
      simp only [this]
      exact getT_map k kvs
theorem ed_get (hu : X.A.units + 64 < cLine) (ho : ED X ns c W o f) (he : ED X ns c W e g) (m : M1 X o "get" apos e pos := by exact ⟨rfl, rfl, rfl, rfl⟩) : ED X ns c W (.Call (.Attribute o "get" apos) [e] [] pos) (dBin hGet f g) := by
  refine pe_weak (pe_dget1 (by omega) ho he m) fun σ H Q q => ?_
  obtain ⟨Hs0, H0, Hs, ρ, n, z, n', R, ee, q⟩ := q
  obtain ⟨x, n1, y, h1, h2, h3⟩ := dBin_some ee
  refine ⟨Hs0, H0, Hs, ρ, n, x, n1, R, h1, fun v Hs1 H1 e1 c1 r1 => ?_⟩
  have R1 := R.step e1 c1
  unfold hGet at h3
  split at h3
  · rename_i r k
    cases h3
    obtain ⟨a, kvs, rfl, ha, rfl⟩ := r1.tx
    refine ⟨a, rfl, .inl ⟨_, .of (R1.sub _ _ ha)⟩, Hs0, H0, Hs1, ρ, n1, _, n', R1, h2, fun w Hs2 H2 e2 c2 r2 => ?_⟩
    have R2 := R1.step e2 c2
    have ha2 := R2.sub _ _ (e2.st _ _ ha)
    refine ⟨_, .inl ⟨_, Sum.inr k, .of ha2, r2.str, rfl⟩, ?_⟩
    have hg := getT_map k kvs
    have hv : ∀ v, valV (kvs.map fun p => ((Sum.inr p.1 : Int ⊕ Str), V.int p.2)) (Sum.inr k) = some v → ∃ i, v = V.int i := fun v hv => by
      unfold valV at hv
      rw [Option.map_eq_some_iff] at hv
      obtain ⟨kv, h1, rfl⟩ := hv
      obtain ⟨p, _, rfl⟩ := List.mem_map.mp (List.mem_of_find?_eq_some h1)
      exact ⟨p.2, rfl⟩
    cases hval : valV (kvs.map fun p => ((Sum.inr p.1 : Int ⊕ Str), V.int p.2)) (Sum.inr k) with
    | none =>
      rw [hval] at hg
      rw [hg] at q
      exact q _ Hs2 H2 (e1.trans c1 e2) c2 (.inl .non)
    | some v =>
      obtain ⟨i, rfl⟩ := hv v hval
      rw [hval] at hg
      rw [hg] at q
      exact q _ Hs2 H2 (e1.trans c1 e2) c2 (.inl (.int i))
  · cases h3
theorem tnil_of {σ : L2.St} {H : Hp} {R : List V → Hp → Prop} (q : tDA X.K ns c W (dAs []) σ H R) : tNil σ H R := by
  obtain ⟨Hs0, H0, Hs, ρ, n, ds, n', r, e, q⟩ := q
  unfold dAs at e
  cases e
  exact q [] Hs H (ExtP.refl r.sub).ext r.cel .nil
/-- f() -/
theorem ed_calD0 {kk : Nat} {m : List Int → List D → M D} {x : Str} (C : CalD X.prog X.w X.K X.mg X.base kk x 0 m) (hr : Room kk X.A) (hg : Gl X x) (hdb : (x == ("__debug__" : Str)) = false := by decide) : ED X ns c W (.Call (.Name x p) [] [] pos) (dCall (m ns) (dAs [])) := by
  obtain ⟨f, fd, ps, F, hm, hk, hb⟩ := C.ex
  exact pe_weak (pe_call0 (E := E0) (F ns) hr hg hm hk hb .nil pass0 hdb) fun σ H Q q => tnil_of (tCallD (ρ0 := []) (fun _ _ _ _ h => dAs_len h) σ H Q q)
end
end DL
/-! DMg: {str: int for .. in ..}. -/
namespace DL
open PySem PySem.Spec PyProof.Rows L2
/-- the items made, from the wiped slots, keys all different -/
def dCompD (g : TgD) (fk fv : DEnv → M D) (ρ : DEnv) : List D → List (Str × Int) → M (List (Str × Int))
  | [], kvs => fun n => some (kvs, n)
  | d :: ds, kvs => fun n => match g d ρ with
    | none => none
    | some ρ1 => match fk ρ1 n with
      | some (.str k, n1) => match fv ρ1 n1 with
        | some (.int i, n2) => if (kvs.any fun p => decide (p.1 = k)) = true then none else dCompD g fk fv ρ ds (kvs ++ [(k, i)]) n2
        | _ => none
      | _ => none
def dDc (it : DEnv → M (List D)) (vs : List Nat) (g : TgD) (fk fv : DEnv → M D) : DEnv → M D := fun ρ n =>
  match it ρ n with
  | some (ds, n1) => if ds.length ≤ LIM then match dCompD g fk fv (wipeD ρ vs) ds [] n1 with
    | some (kvs, n2) => some (mkTx kvs, n2)
    | none => none
    else none
  | none => none
def kvM (kvs : List (Str × Int)) : List (Key × V) := kvs.map fun p => (Sum.inr p.1, V.int p.2)
theorem putK_new {kvs : List (Str × Int)} {k : Str} {i : Int} (h : ¬ (kvs.any fun p => decide (p.1 = k)) = true) : putK (kvM kvs) (Sum.inr k) (V.int i) = kvM (kvs ++ [(k, i)]) := by
  unfold putK
  have : ((kvM kvs).any fun kv => decide (kv.1 = Sum.inr k)) = kvs.any fun p => decide (p.1 = k) := by
    unfold kvM
    rw [List.any_map]
    congr 1
    funext p
    show decide ((Sum.inr p.1 : Key) = Sum.inr k) = decide (p.1 = k)
    by_cases e : p.1 = k
    · rw [decide_eq_true e, decide_eq_true (by rw [e])]
    · rw [decide_eq_false e, decide_eq_false fun z => e (Sum.inr.inj z)]
  rw [if_neg (by rw [this]; exact h)]
  unfold kvM
  rw [List.map_append]
  rfl
section
variable {X : Cx} {ns : List Int} {c : Md} {W : List Nat} {fk fv : DEnv → M D}
theorem tDcD {ts vs : List Nat} {g : TgD} {it : DEnv → M (List D)} (hts : ∀ j ∈ ts, j ∈ vs) (hvW : ∀ i ∈ vs, i ∉ W) (σ : L2.St) (H : Hp) (Q : VK) (q : tD X.K ns c W (dDc it vs g fk fv) σ H Q) :
    tDc (tDI X.K ns c W it) (tDG X.K ns c W ts g) (tDT X.K ns c W dYes) (tD X.K ns c W fk) (tD X.K ns c W fv) vs σ H Q := by
  obtain ⟨Hs0, H0, Hs, ρ, n, xs, n', R, e, q⟩ := q
  unfold dDc at e
  split at e
  · rename_i ds n1 h1
    split at e
    · rename_i hlim
      split at e
      · rename_i KV n2 h2
        cases e
        refine ⟨Hs0, H0, Hs, ρ, n, ds, n1, R, h1, fun J Hs1 H1 e1 c1 w D hD => ?_⟩
        have R1 := R.step e1 c1
        have hD0 : H D = none := by
          cases e : H D with
          | none => rfl
          | some o =>
            by_cases hc : ∀ q, c = some q → D ≠ q.1
            · rw [e1.al D o hc e] at hD; cases hD
            · exact absurd (fun q hq z => by rw [z, c1 q hq] at hD; cases hD) hc
        have hDs : Hs1 D = none := by
          cases e : Hs1 D with
          | none => rfl
          | some o => rw [R1.sub D o e] at hD; cases hD
        have hcD : ∀ q, c = some q → D ≠ q.1 := fun q hq z => by
          rw [z, c1 q hq] at hD; cases hD
        have R2 : Rel X.K ns c W Hs0 H0 Hs1 (upd H1 D (.dK [])) σ ρ n1 := by
          refine ⟨⟨R1.ext.st, fun b o hb h => ?_, fun b o h => ?_, R1.ext.new⟩, fun p hp => ?_, R1.hc, R1.vars, fun i hi => ?_, R1.apart, R1.len⟩
          · have := R1.ext.al b o hb h
            rw [upd_ne (ne_of_none this hD)]; exact this
          · have := R1.sub b o h
            rw [upd_ne (ne_of_none this hD)]; exact this
          · rw [upd_ne (ne_of_none (c1 p hp) hD)]; exact c1 p hp
          · obtain ⟨p, vs', ds', a1, a2, a3, a4⟩ := R1.own i hi
            exact ⟨p, vs', ds', a1, a2, by rw [upd_ne (ne_of_none a3 hD)]; exact a3, a4⟩
        have alt : ∀ {H3 H4 : Hp}, SameC c H1 H3 → SameC c H3 H4 → SameC c H1 H4 := fun a b p o hp h => b p o hp (a p o hp h)
        have newf : ∀ {Hs3 H3 Hs4 H4 : Hp}, SameC c H1 H3 → (∀ p, Hs3 p ≠ none → Hs1 p ≠ none ∨ H1 p = none) → Ext c Hs3 H3 Hs4 H4 → (∀ p, c = some p → H3 p.1 ≠ none) → ∀ p, Hs4 p ≠ none → Hs1 p ≠ none ∨ H1 p = none := fun {Hs3 H3 Hs4 H4} al nw ex hcc p hp => by
          rcases ex.new p hp with z | z
          · exact nw p z
          · right
            cases e : H1 p with
            | none => rfl
            | some o =>
              by_cases hc : ∀ q, c = some q → p ≠ q.1
              · rw [al p o hc e] at z; cases z
              · exact absurd (fun q hq zz => hcc q hq (by rw [← zz]; exact z)) hc
        -- the invariant
        refine ⟨fun i m H => m = ds.length - i ∧ i ≤ ds.length ∧ ∃ Hs2 n3 kvs, Same Hs1 Hs2 ∧ Rel X.K ns c W Hs0 H0 Hs2 H σ ρ n3 ∧ Hs2 D = none ∧ SameC c H1 H ∧ H D = some (.dK (kvM kvs)) ∧ dCompD g fk fv (wipeD ρ vs) (ds.drop i) kvs n3 = some (KV, n') ∧ kvs.length ≤ i ∧ (∀ p, Hs2 p ≠ none → Hs1 p ≠ none ∨ H1 p = none),
          ⟨ds.length, by simp, Nat.zero_le _, Hs1, n1, [], Same.rfl', R2, hDs, fun b o hb h => by rw [upd_ne (ne_of_none h hD)]; exact h, upd_same, by simpa using h2, Nat.le_refl _, fun p h => .inl h⟩, ?_⟩
        rintro i m H2 ⟨rfl, hi, Hs2, n3, kvs, s2, R3, hD3, al3, dD, e3, hdl, new3⟩
        by_cases hlt : i < ds.length
        · right
          refine ⟨w.goes i H2 (Same.trans' s2 R3.sub) hlt, fun H5 => ∃ Hs5 n5 kvs5, Same Hs1 Hs5 ∧ Rel X.K ns c W Hs0 H0 Hs5 H5 σ ρ n5 ∧ Hs5 D = none ∧ SameC c H1 H5 ∧ H5 D = some (.dK (kvM kvs5)) ∧ dCompD g fk fv (wipeD ρ vs) (ds.drop (i + 1)) kvs5 n5 = some (KV, n') ∧ kvs5.length ≤ i + 1 ∧ (∀ p, Hs5 p ≠ none → Hs1 p ≠ none ∨ H1 p = none),
            fun H5 h5 => ⟨ds.length - (i + 1), by omega, rfl, hlt, h5⟩, fun x H3 y => ?_⟩
          have hd : ds[i]? = some ds[i] := List.getElem?_eq_getElem hlt
          rw [List.drop_eq_getElem_cons hlt] at e3
          unfold dCompD at e3
          obtain ⟨Hs3, ee3, r3⟩ := w.yields i Hs2 H2 x H3 _ s2 R3.sub hd y
          have R4 := R3.stepP ee3
          have hD4 : Hs3 D = none := (ee3.ext (c := c)).keep0 hD3 (by rw [dD]; exact fun z => nomatch z)
          have al4 : SameC c H1 H3 := alt al3 (ee3.ext (c := c)).al
          have new4 := newf al3 new3 (ee3.ext (c := c)) (fun p hp => by rw [R3.cel p hp]; exact fun z => nomatch z)
          split at e3
          · cases e3
          · rename_i ρ1 hg1
            refine ⟨Hs0, H0, Hs3, wipeD ρ vs, n3, _, ρ1, R4.wipe hvW, r3, hg1, fun σ4 o4 R5 => ⟨(wipe_only o4 hts).trans wipe_idem, ?_⟩⟩
            split at e3
            · rename_i k n6 hk6
              split at e3
              · rename_i z n7 hv7
                split at e3
                · cases e3
                · rename_i hany
                  refine ⟨Hs0, H0, Hs3, ρ1, n3, true, n3, R5, rfl, fun Hs5 H5 e5 c5 => iteT ?_⟩
                  have R5' := R5.step e5 c5
                  refine ⟨Hs0, H0, Hs5, ρ1, n3, _, n6, R5', hk6, fun v6 Hs6 H6 e6 c6 r6 => ?_⟩
                  have R6 := R5'.step e6 c6
                  refine ⟨Hs0, H0, Hs6, ρ1, n6, _, n7, R6, hv7, fun v7 Hs7 H7 e7 c7 r7 => ?_⟩
                  have D3 : H3 D = some (.dK (kvM kvs)) := ee3.al D _ dD
                  have D5 := e5.al D _ hcD D3
                  have D6 := e6.al D _ hcD D5
                  have D7 := e7.al D _ hcD D6
                  have hD5 : Hs5 D = none := e5.keep0 hD4 (by rw [D3]; exact fun z => nomatch z)
                  have hD6 : Hs6 D = none := e6.keep0 hD5 (by rw [D5]; exact fun z => nomatch z)
                  have hD7 : Hs7 D = none := e7.keep0 hD6 (by rw [D6]; exact fun z => nomatch z)
                  have r6' := r6.same e7.st
                  refine ⟨kvM kvs, Sum.inr k, r6.str, D7, by unfold kvM; rw [List.length_map, LIM_eq]; exact Nat.lt_of_lt_of_le (Nat.lt_of_le_of_lt hdl hlt) hlim, ?_⟩
                  rw [r7.int, putK_new hany]
                  have Rb : Rel X.K ns c W Hs0 H0 Hs7 H7 σ ρ n7 := ((R4.step e5 c5).step e6 c6).step e7 c7
                  have al7 : SameC c H1 H7 := alt (alt (alt al4 e5.al) e6.al) e7.al
                  have c3' : ∀ p, c = some p → H3 p.1 ≠ none := fun p hp => by rw [R4.cel p hp]; exact fun z => nomatch z
                  have c5' : ∀ p, c = some p → H5 p.1 ≠ none := fun p hp => by rw [c5 p hp]; exact fun z => nomatch z
                  have c6' : ∀ p, c = some p → H6 p.1 ≠ none := fun p hp => by rw [c6 p hp]; exact fun z => nomatch z
                  have new7 := newf (alt (alt al4 e5.al) e6.al) (newf (alt al4 e5.al) (newf al4 new4 e5 c3') e6 c5') e7 c6'
                  refine ⟨Hs7, n7, kvs ++ [(k, z)], Same.trans' s2 (Same.trans' ee3.st (Same.trans' e5.st (Same.trans' e6.st e7.st))), ?_, hD7, fun b o hb h => ?_, upd_same, e3, by rw [List.length_append, List.length_singleton]; omega, new7⟩
                  · refine ⟨⟨Rb.ext.st, fun b o hb h => ?_, fun b o h => ?_, Rb.ext.new⟩, fun p hp => ?_, Rb.hc, Rb.vars, fun i hi => ?_, Rb.apart, Rb.len⟩
                    · have h0 : H0 D = none := (R.none0 hD0).1
                      rw [upd_ne (ne_of_none h h0)]; exact Rb.ext.al b o hb h
                    · rw [upd_ne (ne_of_none h hD7)]; exact Rb.sub b o h
                    · rw [upd_ne (fun z => hcD p hp z.symm)]; exact Rb.cel p hp
                    · obtain ⟨p, vs', ds', a1, a2, a3, a4⟩ := Rb.own i hi
                      obtain ⟨p', vs'', ds'', b1, b2, b3, b4⟩ := R.own i hi
                      rw [a2] at b2
                      cases b2
                      exact ⟨p, vs', ds', a1, a2, by rw [upd_ne (ne_of_none b3 hD0)]; exact a3, a4⟩
                  · rw [upd_ne (ne_of_none h hD)]; exact al7 b o hb h
              · cases e3
            · cases e3
        · left
          have ei : i = ds.length := by omega
          subst ei
          rw [List.drop_length] at e3
          cases e3
          refine ⟨w.stops H2 (Same.trans' s2 R3.sub), q (.ref D) (upd Hs2 D (.dK (kvM KV))) H2 ⟨fun b o h => ?_, fun b o hb h => al3 b o hb (e1.al b o hb h), fun b o h => ?_, fun p hp => ?_⟩ R3.cel (.inr (.inr (.inr (.inr ⟨D, _, _, _, rfl, .inl ⟨upd_same, .inr ⟨KV, rfl, rfl, rfl⟩⟩, rfl⟩))))⟩
          · have := Same.trans' e1.st s2 b o h
            rw [upd_ne (ne_of_none this hD3)]
            exact this
          · by_cases hb : b = D
            · subst hb
              rw [upd_same] at h
              rw [dD]
              exact h
            · rw [upd_ne hb] at h
              exact R3.sub b o h
          · by_cases hb : p = D
            · subst hb
              exact .inr hD0
            · rw [upd_ne hb] at hp
              rcases new3 p hp with z | z
              · exact e1.new p z
              · right
                cases e : H p with
                | none => rfl
                | some o =>
                  by_cases hc : ∀ q, c = some q → p ≠ q.1
                  · rw [e1.al p o hc e] at z; cases z
                  · exact absurd (fun q hq zz => by rw [zz, c1 q hq] at z; cases z) hc
      · cases e
    · cases e
  · cases e
theorem ed_dc {kx vx tg iter : Expr} {pos : Pos} {scope : Scope} {own : List (Str × Nat)} {ts : List Nat} {g : TgD} {it : DEnv → M (List D)} (hc : X.calm = true) (hN : X.N.Nodup) (hi : ID X ns c W tg iter it) (ok : BlkOk X.N X.env.scope scope own)
    (hg : ∀ (s : Shared) (H : Hp) (C : Addr) (cl : List (Str × Addr)) (fp : List Addr), GD (X.blk s H scope (compEnvC scope cl C X.env) fp) ns c W ts tg g)
    (hk : ∀ (s : Shared) (H : Hp) (C : Addr) (cl : List (Str × Addr)) (fp : List Addr), ED (X.blk s H scope (compEnvC scope cl C X.env) fp) ns c W kx fk)
    (he : ∀ (s : Shared) (H : Hp) (C : Addr) (cl : List (Str × Addr)) (fp : List Addr), ED (X.blk s H scope (compEnvC scope cl C X.env) fp) ns c W vx fv) (hts : ∀ j ∈ ts, j ∈ own.map (·.2) := by decide) (hvW : ∀ i ∈ own.map (·.2), i ∉ W := by decide) (hs : ∀ x, foldedSetIterable iter X.env x = pure x := by intro _; rfl) :
    ED X ns c W (.DictComp kx vx [⟨tg, iter, [], 0⟩] scope pos) (dDc it (own.map (·.2)) g fk fv) :=
  pe_weak (pe_dc hc hN hi ok hg (fun _ _ _ _ _ => tsd_nil) hk he hs) (tDcD hts hvW)
end
end DL
/-! DMh: range(a, b, 2) walked; l.extend(t), t a tuple. -/
namespace PySem.W
open PySem PySem.Spec PyProof.Rows PySem.AutoSeq1
theorem extend_tup (l : Addr) (items : Array Value) (n : Nat) (b : Addr) (items2 : Array Value) (n2 : Nat) (od : Option Addr) (sl : Array (Option Value)) (hs0 : ¬(!items.isEmpty && Builtin.List.listTooLong (items.size + items2.size)) = true) (hs1 : items.size ≤ sizeLine) (hs2 : items.size + items2.size ≤ sizeLine + 1) :
    Meets (Builtin.«list.extend» ⟨[.ref l, .ref b], []⟩) (fun _ R s => s.heap.get? l = some { cls := .type "list", dict := none, data := .seq items n, slots := #[] } ∧ s.heap.get? b = some { cls := .type "tuple", dict := od, data := .seq items2 n2, slots := sl } ∧ R (.ok (.ret Value.none)) { s with heap := s.heap.update l (Obj.mapSeq fun x => x ++ items2), toks := s.toks }) :=
  .of_wp fun prog w A R s h => by
    obtain ⟨hp, g, d, tk, os⟩ := s; obtain ⟨hl, hb, h⟩ := h; have f1 := idx_int; have f2 := AutoSeq1.sub_tuple_tuple
    have f3 := AutoSeq1.sub_list_list
    have f4 := AutoSeq1.sub_tuple_list
    have f5 := AutoSeq1.sub_list_tuple
    have hz' : (items ++ items2).size ≤ sizeLine + 1 := by rw [Array.size_append]; exact hs2
    wp_walk using (wpAny_updateSeq hl rfl (hz := hs1) (_hz' := hz')), wpAny_loadPart' hl, wpAny_loadPart' hb; exact ⟨_, rfl, h⟩
end PySem.W
namespace L2
open PySem PySem.Spec PyProof.Rows
section
variable {X : Cx}
def rExtendT (K : PySem.W.Frag) : V → List V → Hp → VK → Prop := fun x vs H Q => ∃ l b xs zs, x = .ref l ∧ vs = [.ref b] ∧ H l = some (.lst xs) ∧ SqT K H b zs ∧ xs.length + zs.length ≤ sizeLine ∧ Q .non (upd H l (.lst (xs ++ zs)))
theorem mt_extendT : MtM X "list.extend" (rExtendT X.K) := by
  intro pins s σ H x vs v us Q I rx rv h
  obtain ⟨l, b, xs, zs, rfl, rfl, hH, hB, hz, q⟩ := h
  cases rx
  obtain ⟨u, rfl, ru⟩ := rv.one
  cases ru
  obtain ⟨z, its, n, r, hl, e⟩ := I.lstM hH
  obtain ⟨its2, r2, hp, hl2⟩ := I.tuple hB
  have hl2' := r2.length
  obtain ⟨o, ho, hc, n2, hd⟩ := (show s.heap.IsTuple b its2.toArray from hp)
  obtain ⟨oc, od, oda, osl⟩ := o
  simp only at hc hd
  subst hc hd
  have hsz : its.toArray.size + its2.toArray.size ≤ sizeLine := by rw [List.size_toArray, List.size_toArray]; omega
  have hlong : ¬ (!its.toArray.isEmpty && Builtin.List.listTooLong (its.toArray.size + its2.toArray.size)) = true := by
    rw [notLongL hsz, Bool.and_false]
    exact Bool.false_ne_true
  refine call_meets F.slot_list_extend ⟨_, e, rfl⟩ F.entry_list_extend (F.args_list_extend_2 _ _)
    (PySem.W.extend_tup l its.toArray n b its2.toArray n2 od osl hlong (by rw [List.size_toArray]; omega) (by omega)) ⟨e, ho, ?_⟩
  refine ⟨.non, _, I.lset (its' := its ++ its2) hH e (by simp) (r.append r2) ?_, rfl, q⟩
  rw [List.length_append]
  omega
end
end L2
namespace DL
open PySem PySem.Spec PyProof.Rows L2
def hExtendT (ds : List D) : List D → Option (List D)
  | [.tuple es] => if ds.length + es.length ≤ LIM then some (ds ++ es) else none
  | _ => none
section
variable {X : Cx} {fr : FR} {ns : List Int} {c : Md} {W Wb : List Nat} {e tg a b : Expr} {pos p : Pos} {A : DEnv → M (List D)}
theorem sd_extendT {i : Nat} {x : Str} {p1 apos cpos spos : Pos} {fs : List (DEnv → M D)} (hi : X.N[i]? = some x) (hv : Vis X.env.scope x) (ha : AD X ns c W [e] (dAs fs)) (hiW : i ∈ W := by decide) (hd : (x == ("__debug__" : Str)) = false := by decide) (hcd : (x == ("__classdict__" : Str)) = false := by decide)
    (hbase : attributeBase (.Name x p1) "extend" X.env (eval (.Name x p1) X.env) = eval (.Name x p1) X.env := by rfl)
    (hfew : ((backTo cpos (starEach [e] X.env)).all (fun x => !x.1) && (backToKw cpos (keywordEach [] X.env)).all (fun x => x.1.isSome)
      && decide ([e].length + ([] : List Keyword).length + (if ([] : List Keyword).isEmpty then 0 else 1) < 30)) = true := by rfl)
    (hline : (apos.endLine == cpos.line) = true := by rfl) (hs : starEach [e] X.env = (false, eval e X.env) :: starEach [] X.env := by rfl) (hplain : (backTo cpos (starEach [] X.env)).any (·.1) = false := by rfl)
    (hsw : swapsWith (.Call (.Attribute (.Name x p1) "extend" apos) [e] [] cpos) none spos.line X.env = pure false := by rfl) :
    SD X fr ns c Wb W W (.Expr (.Call (.Attribute (.Name x p1) "extend" apos) [e] [] cpos) spos) (sMut i hExtendT (dAs fs)) := by
  refine ps_weak (ps_expr (pe_bm PySem.F.plainAttrs_list PySem.F.slot_list_extend PySem.F.type_list_extend mt_extendT (pe_var hi hv hd hcd) ha hbase hfew hline hs hplain) hsw) fun E σ H q => ?_
  obtain ⟨Hs0, H0, Hs, ρ, n, o, n', R, e, q⟩ := q
  obtain ⟨as, ds, ds', h1, h2, h3, rfl⟩ := sMut_some e
  obtain ⟨p, vs, ds0, a1, a2, a3, a4, a5, a6, a7⟩ := R.ownL hiW h2
  rw [h2] at a1
  cases a1
  refine ⟨.ref p, a2, .inl ⟨rfl, vs, SqL.of a3⟩, ?_⟩
  refine ⟨Hs0, H0, Hs, ρ, n, as, n', R, h1, fun ws Hs1 H1 e1 c1 r1 => ?_⟩
  have R1 := R.step e1 c1
  unfold hExtendT at h3
  split at h3
  · obtain ⟨t2, rfl⟩ := Option.some_of_if h3
    obtain ⟨w, rfl, rw'⟩ := pr1 r1
    obtain ⟨b, zs, rfl, z1, z2⟩ := rw'.tuple
    obtain ⟨p', vs', ds1, b1, b2, b3, b4, b5, b6, b7⟩ := R1.ownL hiW h2
    rw [a2] at b2
    cases b2
    rw [h2] at b1
    cases b1
    refine ⟨p, b, vs', zs, rfl, rfl, b3, Same.seqT R1.sub z1, by rw [b4.length, z2.length, LIM_eq]; exact t2, ?_⟩
    exact q _ Hs1 _ e1.st (R1.mut (vs := vs') hiW a2 (b4.append z2))
  · cases h3
/-! ### range(a, b, 2) -/
def rangeE (lo : Int) (n : Nat) : List D := (List.range n).map fun i : Nat => .int (lo + (i : Int) * 2)
theorem rangeE_len {lo : Int} {n : Nat} : (rangeE lo n).length = n := by unfold rangeE; simp
theorem walkD_rangeE {K : PySem.W.Frag} {lo : Int} {n : Nat} {Hs : Hp} : WalkD K (Itc lo 2 n) (rangeE lo n) Hs := by
  refine ⟨fun i H s h => by rw [rangeE_len] at h; exact h, fun H s => by rw [rangeE_len]; exact Nat.le_refl _, fun i Hs2 H2 x H3 d s1 s2 hd y => ?_⟩
  obtain ⟨rfl, rfl⟩ := y
  unfold rangeE at hd
  rw [List.getElem?_map] at hd
  cases e : (List.range n)[i]? with
  | none => rw [e] at hd; cases hd
  | some j =>
    rw [e] at hd
    cases hd
    have : j = i := by
      rw [List.getElem?_range] at e
      · exact (Option.some.inj e).symm
      · have := (List.getElem?_eq_some_iff.mp e).1
        simpa using this
    subst this
    exact ⟨Hs2, ExtP.refl s2, .int _⟩
def iR3 (A : DEnv → M (List D)) : DEnv → M (List D) := fun ρ n =>
  match A ρ n with
  | some ([.int i, .int j, .int 2], n') => if 0 ≤ i ∧ i ≤ j ∧ j < 1073741824 then some (rangeE i ((j - i + 1) / 2).toNat, n') else none
  | _ => none
theorem rg2 {i j : Int} (h : 0 ≤ i ∧ i ≤ j ∧ j < 1073741824) : RgC i j 2 ((j - i + 1) / 2).toNat := by
  have e : Builtin.Range.rangeSize i j 2 = (((j - i + 1) / 2).toNat : Int) := by
    unfold Builtin.Range.rangeSize
    rw [if_pos (by decide)]
    split <;> omega
  refine ⟨by decide, by decide, ?_, e⟩
  unfold Builtin.Range.small
  rw [e]
  simp only [Builtin.Range.rangeFitsLong, Bool.and_eq_true, Bool.or_eq_true, decide_eq_true_eq, beq_iff_eq, show (2 : Int) > 0 by decide, if_true]
  omega
theorem id_range3 {a1 a2 a3 : Expr} (hg : Gl X "range") (hm : X.mg "range" = none) (ha : AD X ns c W [a1, a2, a3] A)
    (hs : starEach [a1, a2, a3] X.env = (false, eval a1 X.env) :: starEach [a2, a3] X.env := by rfl) (hpl : (backTo pos (starEach [a2, a3] X.env)).any (·.1) = false := by rfl) : ID X ns c W tg (.Call (.Name "range" p) [a1, a2, a3] [] pos) (iR3 A) := by
  refine pi_weak (pi_range3 hg hm ha hs hpl) fun σ H R q => ?_
  obtain ⟨Hs0, H0, Hs, ρ, n, ds, n', r, e, q⟩ := q
  unfold iR3 at e
  split at e
  · rename_i i j n1 h1
    obtain ⟨p1, e'⟩ := Option.some_of_if e
    cases e'
    refine ⟨Hs0, H0, Hs, ρ, n, _, _, r, h1, fun vs Hs' H' e1 c1 r1 => ?_⟩
    obtain ⟨v, w, u, rfl, rv, rw', ru⟩ := pr3 r1
    exact ⟨i, j, 2, _, by rw [rv.int, rw'.int, ru.int], rg2 p1, q _ Hs' H' e1 c1 walkD_rangeE⟩
  · cases e
end
/-! ### bool - bool -/
def hSubB : D → D → Option D
  | .bool i, .bool j => some (.int ((if i = true then 1 else 0) - (if j = true then 1 else 0)))
  | _, _ => none
section
variable {X : Cx} {ns : List Int} {c : Md} {W : List Nat} {a b : Expr} {f g : DEnv → M D} {pos : Pos} {K : PySem.W.Frag}
theorem op_sub_bb : OpR X (binaryOp .Sub) (fun x y H Q => ∃ i j, x = .bl i ∧ y = .bl j ∧ Q (.int ((if i = true then 1 else 0) - (if j = true then 1 else 0))) H) := by
  intro pins s σ H x y v u Q I rx ry h
  obtain ⟨i, j, rfl, rfl, q⟩ := h
  cases rx
  cases ry
  exact PyProof.Rows.sub_bool ⟨.int _, H, I.tok _, ⟨_, rfl⟩, q⟩
theorem r2_subB : R2D K (fun x y H Q => ∃ i j, x = .bl i ∧ y = .bl j ∧ Q (.int ((if i = true then 1 else 0) - (if j = true then 1 else 0))) H) hSubB := by
  intro ns c Hs H x y d e z Q s rx ry hz q
  unfold hSubB at hz
  split at hz
  · rename_i i j
    cases hz
    exact ⟨i, j, rx.bool, ry.bool, q _ Hs H (ExtP.refl s) (.int _)⟩
  · cases hz
theorem ed_subB (ha : ED X ns c W a f) (hb : ED X ns c W b g) : ED X ns c W (.BinOp a .Sub b pos) (dBin hSubB f g) := ed_op op_sub_bb r2_subB ha hb
end
end DL
/-! DLs: how mirrors are reckoned: simp lemmas. -/
namespace DL
open PySem PySem.Spec PyProof.Rows L2
section
variable {f g k : DEnv → M D} {ρ : DEnv} {n : Nat} {S T : SDen} {t u : DEnv → M Bool}
@[simp] theorem dVar_ap (i : Nat) : dVar i ρ n = match ρ[i]? with | some (some d) => some (d, n) | _ => none := rfl
@[simp] theorem dC_ap (d : D) : dC d ρ n = some (d, n) := rfl
@[simp] theorem dBin_ap (h : D → D → Option D) : dBin h f g ρ n = match f ρ n with
  | some (x, n1) => match g ρ n1 with
    | some (y, n2) => match h x y with
      | some z => some (z, n2)
      | none => none
    | none => none
  | none => none := rfl
@[simp] theorem dUn_ap (h : D → Option D) : dUn h f ρ n = match f ρ n with
  | some (x, n1) => match h x with
    | some z => some (z, n1)
    | none => none
  | none => none := rfl
@[simp] theorem dAs_nil : dAs [] ρ n = some ([], n) := rfl
@[simp] theorem dAs_cons (fs : List (DEnv → M D)) : dAs (f :: fs) ρ n = match f ρ n with
    | some (x, n1) => match dAs fs ρ n1 with
      | some (xs, n2) => some (x :: xs, n2)
      | none => none
    | none => none := rfl
@[simp] theorem dUnA_ap (h : List D → Option D) (A : DEnv → M (List D)) : dUnA h A ρ n = match A ρ n with
  | some (x, n1) => match h x with
    | some z => some (z, n1)
    | none => none
  | none => none := rfl
@[simp] theorem dCall_ap (m : List D → M D) (A : DEnv → M (List D)) : dCall m A ρ n = match A ρ n with
  | some (x, n1) => m x n1
  | none => none := rfl
@[simp] theorem dTest_ap : dTest f ρ n = match f ρ n with
  | some (.bool b, n1) => some (b, n1)
  | _ => none := rfl
@[simp] theorem dIf_ap {α : Type} (F G : DEnv → M α) : dIf t F G ρ n = match t ρ n with
  | some (true, n1) => F ρ n1
  | some (false, n1) => G ρ n1
  | none => none := rfl
@[simp] theorem dNot_ap : dNot t ρ n = match t ρ n with
  | some (b, n1) => some (!b, n1)
  | none => none := rfl
@[simp] theorem dAnd_ap : dAnd t u ρ n = match t ρ n with
  | some (true, n1) => u ρ n1
  | some (false, n1) => some (false, n1)
  | none => none := rfl
@[simp] theorem dOr_ap : dOr t u ρ n = match t ρ n with
  | some (true, n1) => some (true, n1)
  | some (false, n1) => u ρ n1
  | none => none := rfl
@[simp] theorem dNotV_ap : dNotV f ρ n = match f ρ n with
  | some (.bool b, n1) => some (.bool !b, n1)
  | _ => none := rfl
@[simp] theorem dAndV_ap : dAndV f g ρ n = match f ρ n with
  | some (.bool true, n1) => g ρ n1
  | some (.bool false, n1) => some (.bool false, n1)
  | _ => none := rfl
@[simp] theorem dOrV_ap : dOrV f g ρ n = match f ρ n with
  | some (.bool true, n1) => some (.bool true, n1)
  | some (.bool false, n1) => g ρ n1
  | _ => none := rfl
@[simp] theorem dChain_ap (h h' : D → D → Option D) : dChain h h' f g k ρ n = match f ρ n with
  | some (x, n1) => match g ρ n1 with
    | some (y, n2) => match h x y with
      | some (.bool true) => match k ρ n2 with
        | some (z, n3) => match h' y z with
          | some u => some (u, n3)
          | none => none
        | none => none
      | some (.bool false) => some (.bool false, n2)
      | _ => none
    | none => none
  | none => none := rfl
@[simp] theorem sNil_ap : sNil ρ n = some (.nx ρ, n) := rfl
@[simp] theorem sSeq_ap : sSeq S T ρ n = match S ρ n with
  | some (.nx ρ', n') => T ρ' n'
  | r => r := rfl
@[simp] theorem sRet_ap : sRet f ρ n = match f ρ n with
  | some (d, n') => some (.rt d, n')
  | none => none := rfl
@[simp] theorem sRetN_ap : sRetN ρ n = some (.rt .none, n) := rfl
@[simp] theorem sBreak_ap : sBreak ρ n = some (.bk ρ, n) := rfl
@[simp] theorem sCont_ap : sCont ρ n = some (.ct ρ, n) := rfl
@[simp] theorem sDrop_ap : sDrop f ρ n = match f ρ n with
  | some (_, n') => some (.nx ρ, n')
  | none => none := rfl
@[simp] theorem sSet_ap (i : Nat) : sSet i f ρ n = match f ρ n with
  | some (d, n') => some (.nx (ρ.set i (some d)), n')
  | none => none := rfl
@[simp] theorem sIf_ap : sIf t S T ρ n = match t ρ n with
  | some (true, n1) => S ρ n1
  | some (false, n1) => T ρ n1
  | none => none := rfl
@[simp] theorem sMut_ap (i : Nat) (h : List D → List D → Option (List D)) (A : DEnv → M (List D)) : sMut i h A ρ n = match A ρ n with
  | some (as, n') => match ρ[i]? with
    | some (some (.list ds)) => match h ds as with
      | some ds' => some (.nx (ρ.set i (some (.list ds'))), n')
      | none => none
    | _ => none
  | none => none := rfl
@[simp] theorem sAsg_ap (g : TgD) : sAsg g f ρ n = match f ρ n with
  | some (d, n') => if noDict d = true then match g d ρ with
    | some ρ' => some (.nx ρ', n')
    | none => none
    else none
  | none => none := rfl
@[simp] theorem sPar_ap (i j : Nat) (A : DEnv → M (List D)) : sPar i j A ρ n = match A ρ n with
  | some ([d, e], n') => some (.nx ((ρ.set i (some d)).set j (some e)), n')
  | _ => none := rfl
@[simp] theorem sPar3_ap (i j l : Nat) (A : DEnv → M (List D)) : sPar3 i j l A ρ n = match A ρ n with
  | some ([d, e, f], n') => some (.nx (((ρ.set i (some d)).set j (some e)).set l (some f)), n')
  | _ => none := rfl
@[simp] theorem sAug_ap (i : Nat) (h : D → D → Option D) : sAug i h f ρ n = sSet i (dBin h (dVar i) f) ρ n := rfl
@[simp] theorem sFor_ap (it : DEnv → M (List D)) (g : TgD) : sFor it g S ρ n = match it ρ n with
  | some (ds, n') => dFor g S ds ρ n'
  | none => none := rfl
@[simp] theorem gNm_ap (i : Nat) (d : D) : gNm i d ρ = if noDict d = true then some (ρ.set i (some d)) else none := rfl
@[simp] theorem gTp_ap (gs : List TgD) (ds : List D) : gTp gs (.tuple ds) ρ = gAll gs ds ρ := rfl
@[simp] theorem gAll_nil : gAll [] [] ρ = some ρ := rfl
@[simp] theorem gAll_cons (g : TgD) (gs : List TgD) (d : D) (ds : List D) : gAll (g :: gs) (d :: ds) ρ = match g d ρ with
    | some ρ' => gAll gs ds ρ'
    | none => none := rfl
@[simp] theorem iL_ap : iL f ρ n = match f ρ n with
  | some (.list ds, n') => some (ds, n')
  | _ => none := rfl
@[simp] theorem iT_ap : iT f ρ n = match f ρ n with
  | some (.tuple ds, n') => some (ds, n')
  | _ => none := rfl
@[simp] theorem iR1_ap (A : DEnv → M (List D)) : iR1 A ρ n = match A ρ n with
  | some ([.int j], n') => if -(2 ^ 62) ≤ j ∧ j < 2 ^ 62 then some (rangeD 0 j.toNat, n') else none
  | _ => none := rfl
@[simp] theorem iR2_ap (A : DEnv → M (List D)) : iR2 A ρ n = match A ρ n with
  | some ([.int i, .int j], n') => if -(2 ^ 62) ≤ i ∧ i < 2 ^ 62 ∧ -(2 ^ 62) ≤ j ∧ j < 2 ^ 62 then some (rangeD i (j - i).toNat, n') else none
  | _ => none := rfl
@[simp] theorem iEn_ap (A : DEnv → M (List D)) : iEn A ρ n = match A ρ n with
  | some ([.list ds], n') => some (enumD 0 ds, n')
  | _ => none := rfl
@[simp] theorem iEnT_ap (A : DEnv → M (List D)) : iEnT A ρ n = match A ρ n with
  | some ([.tuple ds], n') => some (enumD 0 ds, n')
  | _ => none := rfl
@[simp] theorem iZp_ap (A : DEnv → M (List D)) : iZp A ρ n = match A ρ n with
  | some ([.list xs, .list ys], n') => some (zipD xs ys, n')
  | some ([.tuple xs, .tuple ys], n') => some (zipD xs ys, n')
  | _ => none := rfl
@[simp] theorem fLst_ap : fLst f ρ n = match f ρ n with
  | some (.list ds, n') => some (.list ds, n')
  | _ => none := rfl
@[simp] theorem dLc_ap (it : DEnv → M (List D)) (vs : List Nat) (g : TgD) : dLc it vs g t f ρ n = match it ρ n with
  | some (ds, n1) => if ds.length ≤ LIM then match dComp g t f (wipeD ρ vs) ds n1 with
    | some (xs, n2) => some (.list xs, n2)
    | none => none
    else none
  | none => none := rfl
@[simp] theorem dLc2_ap (it : DEnv → M (List D)) (vs : List Nat) (g : TgD) (it1 : DEnv → M (List D)) (vs1 : List Nat) (g1 : TgD) : dLc2 it vs g t it1 vs1 g1 u f ρ n = match it ρ n with
  | some (ds, n1) => match dComp2 g t it1 vs1 g1 u f (wipeD ρ vs) ds n1 with
    | some (xs, n2) => if xs.length ≤ LIM then some (.list xs, n2) else none
    | none => none
  | none => none := rfl
@[simp] theorem dPart_none : dPart none ρ n = some (none, n) := rfl
@[simp] theorem dPart_some : dPart (some f) ρ n = match f ρ n with
    | some (.int i, n1) => some (some i, n1)
    | _ => none := rfl
@[simp] theorem dSl_ap (lo hi : Option (DEnv → M D)) : dSl f lo hi ρ n = match f ρ n with
  | some (x, n1) => match dPart lo ρ n1 with
    | some (l, n2) => match dPart hi ρ n2 with
      | some (h, n3) => match hSl l h x with
        | some z => some (z, n3)
        | none => none
      | none => none
    | none => none
  | none => none := rfl
@[simp] theorem wipeD_nil : wipeD ρ [] = ρ := rfl
@[simp] theorem wipeD_cons (v : Nat) (vs : List Nat) : wipeD ρ (v :: vs) = (wipeD ρ vs).set v none := rfl
@[simp] theorem dYes_ap : dYes ρ n = some (true, n) := rfl
@[simp] theorem sCell_ap (i : Nat) : sCell i ρ n = match ρ[i]? with
  | some (some (.dict [])) => if n < LIM then some (.nx ρ, n + 1) else none
  | _ => none := rfl
@[simp] theorem dLenN_ap (ns : List Int) (A : DEnv → M (List D)) : dLenN ns A ρ n = match A ρ n with
  | some ([.dict []], n') => some (.int n', n')
  | some ([.dict [(.none, .none)]], n') => some (.int ns.length, n')
  | some (ds, n') => match hLen ds with
    | some z => some (z, n')
    | none => none
  | none => none := rfl
@[simp] theorem dEqS_ap (ns : List Int) : dEqS ns f ρ n = match f ρ n with
  | some (.dict [(.none, .none)], n') => if SeqAt.shaped (scrD ns) = true then some (PyData.eqv (scrD ns) (.list []), n') else none
  | _ => none := rfl
@[simp] theorem fnD_ap (N : Nat) (ds : List D) : fnD N S ds n = match S (startD N ds) n with
  | some (.rt d, n') => some (d, n')
  | some (.nx _, n') => some (.none, n')
  | _ => none := rfl
@[simp] theorem startD_ap (N : Nat) (ds : List D) : startD N ds = ds.map some ++ List.replicate (N - ds.length) none := rfl
end
section
variable {i j : Int} {a b : Bool} {xs ys : List D} {x y : D}
@[simp] theorem hLt_i : hLt (.int i) (.int j) = some (.bool (decide (i < j))) := rfl
@[simp] theorem hLe_i : hLe (.int i) (.int j) = some (.bool (decide (i ≤ j))) := rfl
@[simp] theorem hGt_i : hGt (.int i) (.int j) = some (.bool (decide (j < i))) := rfl
@[simp] theorem hGe_i : hGe (.int i) (.int j) = some (.bool (decide (j ≤ i))) := rfl
@[simp] theorem hAdd_i : hAdd (.int i) (.int j) = some (.int (i + j)) := rfl
@[simp] theorem hAdd_t : hAdd (.tuple xs) (.tuple ys) = if xs.length + ys.length ≤ LIM then some (.tuple (xs ++ ys)) else none := rfl
@[simp] theorem hAdd_l : hAdd (.list xs) (.list ys) = if xs.length + ys.length ≤ LIM then some (.list (xs ++ ys)) else none := rfl
@[simp] theorem hAddI_i : hAddI (.int i) (.int j) = some (.int (i + j)) := rfl
@[simp] theorem hSubI_i : hSubI (.int i) (.int j) = some (.int (i - j)) := rfl
@[simp] theorem hNeg_i : hNeg (.int i) = some (.int (-i)) := rfl
@[simp] theorem hMod_i : hMod (.int i) (.int j) = if 0 < j then some (.int (i % j)) else none := rfl
@[simp] theorem hFdiv_i : hFdiv (.int i) (.int j) = if (0 < j ∧ j < 1073741824) ∨ (0 < j ∧ j.natAbs.log2 < 9000) then some (.int (i / j)) else none := rfl
@[simp] theorem hPow_i : hPow (.int i) (.int j) = if 0 ≤ j ∧ j ≤ 1000000 ∧ i.natAbs < 2 ^ 64 then some (.int (i ^ j.toNat)) else none := rfl
@[simp] theorem hMul_i : hMul (.int i) (.int j) = if ((-(2 ^ 64) < i ∧ i < 2 ^ 64) ∨ (-(2 ^ 64) < j ∧ j < 2 ^ 64)) ∨ i.natAbs.log2 + j.natAbs.log2 < 1000000 then some (.int (i * j)) else none := rfl
@[simp] theorem hMul_t : hMul (.tuple xs) (.int j) = if -(2 ^ 63) ≤ j ∧ j ≤ 1000 ∧ xs.length ≤ 1000 then some (.tuple (List.replicate j.toNat xs).flatten) else none := rfl
@[simp] theorem hMul_l : hMul (.list xs) (.int j) = if -(2 ^ 63) ≤ j ∧ j < 2 ^ 63 ∧ xs.length * j.toNat ≤ LIM then some (.list (List.replicate j.toNat xs).flatten) else none := rfl
@[simp] theorem hIx_t : hIx (.tuple xs) (.int i) = atI xs i := rfl
@[simp] theorem hIx_l : hIx (.list xs) (.int i) = atI xs i := rfl
@[simp] theorem hIsB_b : hIsB (.bool a) (.bool b) = some (.bool (decide (a = b))) := rfl
@[simp] theorem hIsNotB_b : hIsNotB (.bool a) (.bool b) = some (.bool (!decide (a = b))) := rfl
@[simp] theorem hLen_l : hLen [.list xs] = some (.int xs.length) := rfl
@[simp] theorem hLen_t : hLen [.tuple xs] = some (.int xs.length) := rfl
@[simp] theorem hAll_l : hAll [.list xs] = match bools xs with | some bs => some (.bool (bs.all id)) | none => none := rfl
@[simp] theorem hAny_l : hAny [.list xs] = match bools xs with | some bs => some (.bool (bs.any id)) | none => none := rfl
@[simp] theorem hMax2_i : hMax2 [.int i, .int j] = some (.int (if j > i then j else i)) := rfl
@[simp] theorem hMin2_i : hMin2 [.int i, .int j] = some (.int (if j < i then j else i)) := rfl
@[simp] theorem hTupleOf_l : hTupleOf [.list xs] = some (.tuple xs) := rfl
@[simp] theorem hTupleOf_t : hTupleOf [.tuple xs] = some (.tuple xs) := rfl
@[simp] theorem hSorted_l : hSorted [.list xs] = if sortOK xs = true then some (.list (xs.mergeSort (PySem.W.dataLe false id))) else none := rfl
@[simp] theorem hListOf_l : hListOf [.list xs] = some (.list xs) := rfl
@[simp] theorem hListOf_t : hListOf [.tuple xs] = some (.list xs) := rfl
@[simp] theorem hSl_t (lo hi : Option Int) : hSl lo hi (.tuple xs) = some (.tuple (cutD xs lo hi)) := rfl
@[simp] theorem hSl_l (lo hi : Option Int) : hSl lo hi (.list xs) = some (.list (cutD xs lo hi)) := rfl
@[simp] theorem hAppend_ap : hAppend xs [x] = if noDict x = true ∧ xs.length < LIM then some (xs ++ [x]) else none := rfl
@[simp] theorem hExtend_ap : hExtend xs [.list ys] = if xs.length + ys.length ≤ LIM then some (xs ++ ys) else none := rfl
@[simp] theorem noDict_i : noDict (.int i) = true := rfl
@[simp] theorem noDict_b : noDict (.bool a) = true := rfl
@[simp] theorem noDict_n : noDict .none = true := rfl
@[simp] theorem noDict_s (s : Str) : noDict (.str s) = true := rfl
@[simp] theorem noDict_l : noDict (.list xs) = true := rfl
@[simp] theorem noDict_t : noDict (.tuple xs) = true := rfl
@[simp] theorem hasDict_nil : hasDict [] = false := rfl
@[simp] theorem hasDict_cons : hasDict (x :: xs) = (!noDict x || hasDict xs) := rfl
@[simp] theorem hTup_ap : hTup xs = if hasDict xs = false ∧ xs.length ≤ LIM then some (.tuple xs) else none := rfl
@[simp] theorem hLst_ap : hLst xs = if hasDict xs = false ∧ xs.length ≤ LIM then some (.list xs) else none := rfl
@[simp] theorem bools_nil : bools [] = some [] := rfl
@[simp] theorem bools_cons : bools (.bool a :: xs) = match bools xs with | some bs => some (a :: bs) | none => none := rfl
theorem bools_map {α : Type} (p : α → Bool) : ∀ l : List α, bools (l.map fun x => .bool (p x)) = some (l.map p)
  | [] => rfl
  | x :: l => by rw [List.map_cons, bools_cons, bools_map p l]; rfl
theorem shaped_int : SeqAt.shaped (.int i) = true := rfl
@[simp] theorem hEqD_i : hEqD (.int i) (.int j) = some (.bool (decide (i = j))) := by
  show some (PyData.bool (i == j)) = _
  congr 2
@[simp] theorem hNeD_i : hNeD (.int i) (.int j) = some (.bool (!decide (i = j))) := by
  show some (PyData.bool (!(i == j))) = _
  congr 3
/-- items at written places -/
@[simp] theorem atI_0 {α : Type} {a : α} {l : List α} : atI (a :: l) 0 = some a := by
  unfold atI ixN
  rw [if_pos (by decide), if_pos (by simp only [List.length_cons]; omega)]
  rfl
@[simp] theorem atI_1 {α : Type} {a b : α} {l : List α} : atI (a :: b :: l) 1 = some b := by
  unfold atI ixN
  rw [if_pos (by decide), if_pos (by simp only [List.length_cons]; omega)]
  rfl
@[simp] theorem atI_2 {α : Type} {a b c : α} {l : List α} : atI (a :: b :: c :: l) 2 = some c := by
  unfold atI ixN
  rw [if_pos (by decide), if_pos (by simp only [List.length_cons]; omega)]
  rfl
@[simp] theorem atI_3 {α : Type} {a b c d : α} {l : List α} : atI (a :: b :: c :: d :: l) 3 = some d := by
  unfold atI ixN
  rw [if_pos (by decide), if_pos (by simp only [List.length_cons]; omega)]
  rfl
@[simp] theorem atI_4 {α : Type} {a b c d e : α} {l : List α} : atI (a :: b :: c :: d :: e :: l) 4 = some e := by
  unfold atI ixN
  rw [if_pos (by decide), if_pos (by simp only [List.length_cons]; omega)]
  rfl
end
@[simp] theorem LIM_val : LIM = 16777216 := rfl
theorem iR1_nat {f : DEnv → M D} {ρ : DEnv} {n k : Nat} (h : f ρ n = some (.int k, n)) (hk : k ≤ 1000000) : iR1 (dAs [f]) ρ n = some (rangeD 0 k, n) := by
  unfold iR1 dAs
  rw [h]
  simp only [dAs]
  rw [if_pos (by omega)]
  rfl
theorem sSeq_of {S T : SDen} {ρ ρ1 : DEnv} {n n1 : Nat} (h : S ρ n = some (.nx ρ1, n1)) : sSeq S T ρ n = T ρ1 n1 := by
  unfold sSeq
  rw [h]
@[simp] theorem fnL_ap {S : SDen} {n : Nat} (N : Nat) (ds : List D) : fnL N S ds n = match S (startD N ds) n with
  | some (.rt (.list xs), n') => some (.list xs, n')
  | _ => none := rfl
theorem fnD_of {N : Nat} {S : SDen} {ds : List D} {ρ : DEnv} {n n' : Nat} {d : D} (hρ : startD N ds = ρ) (h : S ρ n = some (.rt d, n')) : fnD N S ds n = some (d, n') := by
  unfold fnD
  rw [hρ, h]
theorem sFor_of {it : DEnv → M (List D)} {g : TgD} {S : SDen} {ρ : DEnv} {n n1 : Nat} {ds : List D} {r : Option (Out × Nat)} (h : it ρ n = some (ds, n1)) (h2 : dFor g S ds ρ n1 = r) : sFor it g S ρ n = r := by
  unfold sFor
  rw [h]
  exact h2
theorem sSeq_to {S T : SDen} {ρ ρ1 : DEnv} {n n1 : Nat} {r : Option (Out × Nat)} (h : S ρ n = some (.nx ρ1, n1)) (h2 : T ρ1 n1 = r) : sSeq S T ρ n = r := by rw [sSeq_of h, h2]
theorem fnL_of {N : Nat} {S : SDen} {ds xs : List D} {ρ : DEnv} {n n' : Nat} (hρ : startD N ds = ρ) (h : S ρ n = some (.rt (.list xs), n')) : fnL N S ds n = some (.list xs, n') := by
  unfold fnL
  rw [hρ, h]
@[simp] theorem iZm_ap (A : DEnv → M (List D)) (ρ : DEnv) (n : Nat) : iZm A ρ n = match A ρ n with
  | some ([.tuple xs, .list ys], n') => some (zipD xs ys, n')
  | _ => none := rfl
@[simp] theorem iZx_ap (A : DEnv → M (List D)) (ρ : DEnv) (n : Nat) : iZx A ρ n = match A ρ n with
  | some ([.list xs, .list ys], n') => some (zipD xs ys, n')
  | some ([.tuple xs, .tuple ys], n') => some (zipD xs ys, n')
  | some ([.tuple xs, .list ys], n') => some (zipD xs ys, n')
  | _ => none := by
  unfold iZx iZp iZm
  cases A ρ n with
  | none => rfl
  | some q =>
    obtain ⟨l, m⟩ := q
    match l with
    | [] => rfl
    | [x] => cases x <;> rfl
    | x :: y :: _ :: _ => cases x <;> cases y <;> rfl
    | [x, y] => cases x <;> cases y <;> rfl
@[simp] theorem dTru_ap (f : DEnv → M D) (ρ : DEnv) (n : Nat) : dTru f ρ n = match f ρ n with
  | some (d, n1) => match truD d with
    | some b => some (b, n1)
    | none => none
  | none => none := rfl
@[simp] theorem truD_l (xs : List D) : truD (.list xs) = some (!xs.isEmpty) := rfl
@[simp] theorem truD_t (xs : List D) : truD (.tuple xs) = some (!xs.isEmpty) := rfl
@[simp] theorem hTwo_t (xs : List D) : hTwo (.tuple xs) = if 2 ≤ xs.length then some (.tuple (xs.take 2).reverse) else none := rfl
@[simp] theorem hTwo_l (xs : List D) : hTwo (.list xs) = if 2 ≤ xs.length then some (.list (xs.take 2).reverse) else none := rfl
@[simp] theorem hLcm2_i (a b : Int) : hLcm2 [.int a, .int b] = if lcmOK2 a b then some (.int (lcm2 a b : Nat)) else none := rfl
/-! ### loops in general -/
theorem dComp_map {g : TgD} {f : DEnv → M D} {ρ : DEnv} {p : D → D} : ∀ (ds : List D) (n : Nat), (∀ d ∈ ds, ∀ m, ∃ ρ1, g d ρ = some ρ1 ∧ f ρ1 m = some (p d, m) ∧ noDict (p d) = true) → dComp g dYes f ρ ds n = some (ds.map p, n)
  | [], _, _ => rfl
  | d :: ds, n, h => by
    obtain ⟨ρ1, h1, h2, h3⟩ := h d List.mem_cons_self n
    unfold dComp
    rw [h1]
    simp only [dYes_ap, h2, h3, if_true]
    rw [dComp_map ds n fun e he => h e (List.mem_cons_of_mem _ he)]
    rfl
theorem dComp2_map {g g1 : TgD} {f : DEnv → M D} {it1 : DEnv → M (List D)} {vs1 : List Nat} {ρ : DEnv} {p : D → List D} : ∀ (ds : List D) (n : Nat),
    (∀ d ∈ ds, ∀ m, ∃ ρ1 ds1, g d ρ = some ρ1 ∧ it1 ρ1 m = some (ds1, m) ∧ dComp g1 dYes f (wipeD ρ1 vs1) ds1 m = some (p d, m)) → dComp2 g dYes it1 vs1 g1 dYes f ρ ds n = some (ds.flatMap p, n)
  | [], _, _ => rfl
  | d :: ds, n, h => by
    obtain ⟨ρ1, ds1, h1, h2, h3⟩ := h d List.mem_cons_self n
    unfold dComp2
    rw [h1]
    simp only [dYes_ap, h2, h3]
    rw [dComp2_map ds n fun e he => h e (List.mem_cons_of_mem _ he)]
    rfl
/-- a loop by an invariant over what is done -/
theorem dFor_inv {g : TgD} {S : SDen} (Iv : Nat → DEnv → Nat → Prop) : ∀ (ds : List D) (k : Nat) (ρ : DEnv) (n : Nat), Iv k ρ n → (∀ j d ρ n, ds[j]? = some d → Iv (k + j) ρ n → ∃ ρ1 ρ2 n2, g d ρ = some ρ1 ∧ S ρ1 n = some (.nx ρ2, n2) ∧ Iv (k + j + 1) ρ2 n2) →
    ∃ ρ2 n2, dFor g S ds ρ n = some (.nx ρ2, n2) ∧ Iv (k + ds.length) ρ2 n2
  | [], k, ρ, n, h, _ => ⟨ρ, n, rfl, h⟩
  | d :: ds, k, ρ, n, h, st => by
    obtain ⟨ρ1, ρ2, n2, h1, h2, h3⟩ := st 0 d ρ n rfl h
    obtain ⟨ρ3, n3, h4, h5⟩ := dFor_inv Iv ds (k + 1) ρ2 n2 h3 fun j e ρ' n' hj hi => by
      have := st (j + 1) e ρ' n' (by simpa using hj) (by rw [show k + (j + 1) = k + 1 + j by omega]; exact hi)
      rw [show k + (j + 1) + 1 = k + 1 + j + 1 by omega] at this
      exact this
    refine ⟨ρ3, n3, ?_, by rw [List.length_cons, show k + (ds.length + 1) = k + 1 + ds.length by omega]; exact h5⟩
    unfold dFor
    rw [h1]
    simp only [h2]
    exact h4
/-- a loop that adds to a list, p d at each turn -/
theorem dFor_acc {g : TgD} {S : SDen} (I : List D → DEnv → Prop) (p : D → List D) (n B : Nat) : ∀ (ds acc : List D) (ρ : DEnv), I acc ρ → acc.length + (ds.flatMap p).length ≤ B →
    (∀ d ∈ ds, ∀ acc ρ, I acc ρ → acc.length + (p d).length ≤ B → ∃ ρ1 ρ2, g d ρ = some ρ1 ∧ S ρ1 n = some (.nx ρ2, n) ∧ I (acc ++ p d) ρ2) → ∃ ρ2, dFor g S ds ρ n = some (.nx ρ2, n) ∧ I (acc ++ ds.flatMap p) ρ2
  | [], acc, ρ, h, _, _ => ⟨ρ, rfl, by rw [List.flatMap_nil, List.append_nil]; exact h⟩
  | d :: ds, acc, ρ, h, hb, st => by
    rw [List.flatMap_cons, List.length_append] at hb
    obtain ⟨ρ1, ρ2, h1, h2, h3⟩ := st d List.mem_cons_self acc ρ h (by omega)
    obtain ⟨ρ3, h4, h5⟩ := dFor_acc I p n B ds (acc ++ p d) ρ2 h3 (by rw [List.length_append]; omega) fun e he => st e (List.mem_cons_of_mem _ he)
    refine ⟨ρ3, ?_, by rw [List.flatMap_cons, ← List.append_assoc]; exact h5⟩
    unfold dFor
    rw [h1]
    simp only [h2]
    exact h4
end DL
/-! DNa: defs that may raise. -/
namespace DL
open PySem PySem.Spec PyProof.Rows L2
/-- a value, or the class (by name) of what is raised -/
def fnX (N : Nat) (S : SDen) : List D → M (D ⊕ Str) := fun ds n =>
  match S (startD N ds) n with
  | some (.rt d, n') => some (.inl d, n')
  | some (.nx _, n') => some (.inl .none, n')
  | some (.ex x, n') => some (.inr x, n')
  | _ => none
def spX (K : PySem.W.Frag) (ns : List Int) (ar : Nat) (m : List D → M (D ⊕ Str)) : Sp := fun vs H Q E => vs.length = ar ∧ ∃ c Hs ds n r n', Same Hs H ∧ Cel c n H ∧ (∀ p, c = some p → Hs p.1 = none) ∧ Paired (SRep K ns c Hs) vs ds ∧ m ds n = some (r, n') ∧
  match r with
  | .inl d => ∀ v Hs' H', Ext c Hs H Hs' H' → Cel c n' H' → SRep K ns c Hs' v d → Q v H'
  | .inr x => ∀ cls Hs' H', PySem.W.nsIn K mainGlobals x = some (some cls) → Ext c Hs H Hs' H' → Cel c n' H' → E cls none H'
theorem fn_X {P : Program} {w : World} {K : PySem.W.Frag} {mg : Str → Option Value} {base : Heap} {x qual : Str} {st : Stmt} {f : Addr} {fd : FuncData} {N ps : List Str} {k : Nat} {S : SDen} {W' : List Nat} (F : Fun K x qual st f fd) (Sc : FnScope N ps (defScope st)) (ns : List Int)
    (body : ∀ (c : Md) (cdv : Value) (A : Around) (outer : List Env) (s : Shared) (H : Hp) (E : XK), Room k (A.deeper (envOfC qual (defScope st) s.heap.objs.size f cdv)) → SSD (cxOf (L2N.CX P w) P w K mg base N qual (defScope st) f cdv A outer s H E) ⟨false, fun cls d _ H => E cls d H⟩ ns c [] [] W' (defBody st) S) :
    FnOk P w K mg base (L2N.CX P w) (k + 1) f fd ps (spX K ns ps.length (fnX N.length S)) := by
  obtain ⟨oc, od, kV, doc, pm, an, cdv, ct, osl, rfl, lk, hcd⟩ := F.ex
  refine fn_of lk hcd Sc (fun vs H Q E h => h.1) (fun A outer s H vs Q E hr h => ?_)
  obtain ⟨hl, c, Hs, ds, n, r, n', sm, cl, hc, rr, e, q⟩ := h
  refine ⟨_, body c cdv A outer s H E hr, ?_⟩
  have hpl : ps.length ≤ N.length := by have := congrArg List.length Sc.pre; rw [List.length_take] at this; omega
  have hdl : ds.length ≤ N.length := by
    have : vs.length = ds.length := Paired.length rr
    omega
  unfold fnX at e
  split at e
  · rename_i d1 n1 h1
    cases e
    exact ⟨Hs, H, Hs, _, n, _, _, start_rel hdl sm cl hc rr, h1, q⟩
  · rename_i ρ1 n1 h1
    cases e
    exact ⟨Hs, H, Hs, _, n, _, _, start_rel hdl sm cl hc rr, h1, fun σ' Hs' H' _ R => q .non _ H' (R.frz [] (fun _ h => nomatch h)).ext R.cel (.inl .non)⟩
  · rename_i x1 n1 h1
    cases e
    exact ⟨Hs, H, Hs, _, n, _, _, start_rel hdl sm cl hc rr, h1, fun cls σ' Hs' H' W1 ρ' hx s2 R => q cls _ H' hx (R.frz [] (fun _ h => nomatch h)).ext R.cel⟩
  · cases e
/-! ### raise -/
def sRaise (x : Str) : SDen := fun _ n => some (.ex x, n)
theorem sd_raise {X : Cx} {fr : FR} {ns : List Int} {c : Md} {W W' Wb : List Nat} {e : Expr} {pos : Pos} {x : Str} {cls : Value} (hc : X.calm = true) (tk : L2N.Takes X fr.wx) (he : L2N.PMk X e (fun _ H Q => Q cls none H)) (hx : PySem.W.nsIn X.K mainGlobals x = some (some cls)) :
    SD X fr ns c Wb W W' (.Raise (some e) none pos) (sRaise x) := by
  refine ps_weak (L2N.ps_raise hc tk he) fun E σ H q => ?_
  obtain ⟨Hs0, H0, Hs, ρ, n, o, n', R, e, q⟩ := q
  cases e
  exact q cls σ Hs H W ρ hx Same.rfl' R
/-! ### expressions that may raise -/
def tX (K : PySem.W.Frag) (ns : List Int) (c : Md) (W : List Nat) (wx : XW) (g : DEnv → M (D ⊕ Str)) : TE := fun σ H Q => ∃ Hs0 H0 Hs ρ n r n', Rel K ns c W Hs0 H0 Hs H σ ρ n ∧ g ρ n = some (r, n') ∧
  match r with
  | .inl d => ∀ v Hs' H', Ext c Hs H Hs' H' → Cel c n' H' → SRep K ns c Hs' v d → Q v H'
  | .inr x => ∀ cls Hs' H', PySem.W.nsIn K mainGlobals x = some (some cls) → Ext c Hs H Hs' H' → Cel c n' H' → wx cls none σ H'
abbrev EX (X : Cx) (wx : XW) (ns : List Int) (c : Md) (W : List Nat) (e : Expr) (g : DEnv → M (D ⊕ Str)) : Prop := PE X e (tX X.K ns c W wx g)
def dCallX (m : List D → M (D ⊕ Str)) (A : DEnv → M (List D)) : DEnv → M (D ⊕ Str) := fun ρ n => match A ρ n with
  | some (ds, n1) => m ds n1
  | none => none
def sDropX (g : DEnv → M (D ⊕ Str)) : SDen := fun ρ n => match g ρ n with
  | some (.inl _, n') => some (.nx ρ, n')
  | some (.inr x, n') => some (.ex x, n')
  | none => none
def sRetX (g : DEnv → M (D ⊕ Str)) : SDen := fun ρ n => match g ρ n with
  | some (.inl d, n') => some (.rt d, n')
  | some (.inr x, n') => some (.ex x, n')
  | none => none
def sSetX (i : Nat) (g : DEnv → M (D ⊕ Str)) : SDen := fun ρ n => match g ρ n with
  | some (.inl d, n') => some (.nx (ρ.set i (some d)), n')
  | some (.inr x, n') => some (.ex x, n')
  | none => none
section
variable {X : Cx} {fr : FR} {wx : XW} {ns : List Int} {c : Md} {W W' Wb : List Nat} {e : Expr} {es : List Expr} {g : DEnv → M (D ⊕ Str)} {pos p : Pos} {x : Str}
theorem sd_exprX (h : EX X fr.wx ns c W e g) (hs : swapsWith e none pos.line X.env = pure false := by rfl) : SD X fr ns c Wb W W (.Expr e pos) (sDropX g) := by
  refine ps_weak (ps_expr h hs) fun E σ H q => ?_
  obtain ⟨Hs0, H0, Hs, ρ, n, o, n', R, e, q⟩ := q
  unfold sDropX at e
  split at e
  · rename_i d n1 h1
    cases e
    exact ⟨Hs0, H0, Hs, ρ, n, _, _, R, h1, fun v Hs' H' e1 c1 r1 => q σ Hs' H' e1.st (R.step e1 c1)⟩
  · rename_i d n1 h1
    cases e
    exact ⟨Hs0, H0, Hs, ρ, n, _, _, R, h1, fun cls Hs' H' hx e1 c1 => q cls σ Hs' H' W ρ hx e1.st (R.step e1 c1)⟩
  · cases e
theorem sd_retX (h : EX X wx ns c W e g) : SD X ⟨false, wx⟩ ns c Wb W W' (.Return (some e) pos) (sRetX g) := by
  refine ps_weak (ps_ret h) fun E σ H q => ?_
  obtain ⟨Hs0, H0, Hs, ρ, n, o, n', R, e, q⟩ := q
  unfold sRetX at e
  split at e
  · rename_i d n1 h1
    cases e
    exact ⟨Hs0, H0, Hs, ρ, n, _, _, R, h1, fun v Hs' H' e1 c1 r1 => q v Hs' H' (R.ext.trans R.cel e1) c1 r1⟩
  · rename_i d n1 h1
    cases e
    exact ⟨Hs0, H0, Hs, ρ, n, _, _, R, h1, fun cls Hs' H' hx e1 c1 => q cls σ Hs' H' W ρ hx e1.st (R.step e1 c1)⟩
  · cases e
theorem sd_setX {i : Nat} {x : Str} {pos' : Pos} (hN : X.N.Nodup) (hi : X.N[i]? = some x) (hx : Loc X.env.scope x) (he : EX X fr.wx ns c W e g) (hW : ∀ j ∈ W', j ∈ W := by decide) (hiW : i ∉ W' := by decide) (hs : swapsWith e (some (.Name x pos')) pos.line X.env = pure false := by rfl)
    (hf : X.fn x = true ∨ X.env.scope.names.lookup x = some .local := by first | exact .inl rfl | exact .inr rfl | assumption) : SD X fr ns c Wb W W' (.Assign [.Name x pos'] e pos) (sSetX i g) := by
  refine ps_weak (ps_set hN hi hx he hs hf) fun E σ H q => ?_
  obtain ⟨Hs0, H0, Hs, ρ, n, o, n', R, e, q⟩ := q
  unfold sSetX at e
  split at e
  · rename_i d n1 h1
    cases e
    refine ⟨Hs0, H0, Hs, ρ, n, _, _, R, h1, fun v Hs' H' e1 c1 r1 => ?_⟩
    obtain ⟨Hs2, s2, R2⟩ := (R.step e1 c1).store hW hiW r1
    exact q _ Hs2 H' (Same.trans' e1.st s2) R2
  · rename_i d n1 h1
    cases e
    exact ⟨Hs0, H0, Hs, ρ, n, _, _, R, h1, fun cls Hs' H' hx e1 c1 => q cls σ Hs' H' W ρ hx e1.st (R.step e1 c1)⟩
  · cases e
/-- a def that may raise, under its name -/
structure CalX (P : Program) (w : World) (K : PySem.W.Frag) (mg : Str → Option Value) (base : Heap) (k : Nat) (x : Str) (ar : Nat) (m : List Int → List D → M (D ⊕ Str)) : Prop where
  ex : ∃ (f : Addr) (fd : FuncData) (ps : List Str), (∀ ns, FnOk P w K mg base (L2N.CX P w) k f fd ps (spX K ns ar (m ns))) ∧ mg x = some (.ref f) ∧ PySem.W.keepIn K (.ref f) = true ∧ Binds K fd ps []
theorem ex_call {kk ar : Nat} {m : List Int → List D → M (D ⊕ Str)} {fs : List (DEnv → M D)} (tk : L2N.Takes X wx) (C : CalX X.prog X.w X.K X.mg X.base kk x ar m) (hr : Room kk X.A) (hg : Gl X x) (ha : AD X ns c W (e :: es) (dAs fs)) (har : fs.length = ar := by rfl) (hdb : (x == ("__debug__" : Str)) = false := by decide)
    (he : starEach (e :: es) X.env = (false, eval e X.env) :: starEach es X.env := by rfl) (hpl : (backTo pos (starEach es X.env)).any (·.1) = false := by rfl) : EX X wx ns c W (.Call (.Name x p) (e :: es) [] pos) (dCallX (m ns) (dAs fs)) := by
  obtain ⟨f, fd, ps, F, hm, hk, hb⟩ := C.ex
  refine pe_weak (pe_callS (F ns) hr hg hm hk hb (fun σ => L2N.passAt tk σ) ha hdb he hpl) fun σ H Q q => ?_
  obtain ⟨Hs0, H0, Hs, ρ, n, r, n', R, e, q⟩ := q
  unfold dCallX at e
  split at e
  · rename_i ds n1 h1
    refine ⟨Hs0, H0, Hs, ρ, n, ds, n1, R, h1, fun vs Hs1 H1 e1 c1 r1 => ?_⟩
    have R1 := R.step e1 c1
    show spX X.K ns ar (m ns) vs H1 Q _
    refine ⟨by rw [(Paired.length r1 : _ = _)]; exact (dAs_len h1).trans har, c, Hs1, ds, n1, r, n', R1.sub, c1, R1.hc, r1, e, ?_⟩
    cases r with
    | inl d => exact fun v Hs2 H2 e2 c2 r2 => q v Hs2 H2 (e1.trans c1 e2) c2 r2
    | inr x => exact fun cls Hs2 H2 hx e2 c2 => q cls Hs2 H2 hx (e1.trans c1 e2) c2
  · cases e
end
/-! ### try: body, except C as n: a suite that returns -/
/-- what the suite returns for a class of exceptions, by name -/
def sTry (S : SDen) (h : Str → Option D) : SDen := fun ρ n => match S ρ n with
  | some (.ex x, n') => match h x with
    | some d => some (.rt d, n')
    | none => none
  | r => r
section
variable {X : Cx} {ns : List Int} {c : Md} {W W' Wb : List Nat} {x n : Str} {cv : Value} {i : Nat} {body suite : List Stmt} {b₀ : Stmt} {np pos pos' : Pos} {ts : Addr → Value → Option Addr → TS} {wx : XW} {S : SDen} {h : Str → Option D}
theorem sd_try (hs : X.stack = X.env :: X.outer) (hf : X.env.frame = some X.env.locals) (hN : X.N.Nodup) (hi : X.N[i]? = some n) (hln : X.env.kindOf n = some .local) (hc : Names X x cv) (tk : L2N.Takes X wx)
    (hb : ∀ (w1 : XW) (pn : List (Addr × Obj)) (xe : Value → Shared → Prop), L2N.Takes (X.tr pn xe) w1 → PassesOwn (model X.prog X.w) X.A X.env xe → SSD (X.tr pn xe) ⟨false, w1⟩ ns c Wb W W' body S)
    (hsu : ∀ (a : Addr) (oe : Obj) (cls : Value) (d : Option Addr) (pn : List (Addr × Obj)), L2N.Zn cls d oe → (∃ vs, oe.data = .fields vs) → PSs (X.suite a ((a, oe) :: pn)) (b₀ :: suite) (ts a cls d))
    (hm : ∀ y d cls, h y = some d → PySem.W.nsIn X.K mainGlobals y = some (some cls) → PySem.W.exmOne X.K cls cv = some true)
    (hts : ∀ y d cls, h y = some d → PySem.W.nsIn X.K mainGlobals y = some (some cls) → ∀ (a : Addr) (E : Ends) (σ' : L2.St) (Hs0 H0 Hs' H' : Hp) (W1 : List Nat) (ρ' : DEnv) (n' : Nat), Rel X.K ns c W1 Hs0 H0 Hs' H' σ' ρ' n' → H' a = none →
      (∀ v Hs2 H2, Ext c Hs0 H0 Hs2 H2 → Cel c n' H2 → SRep X.K ns c Hs2 v d → E.rt v H2) → ts a cls none E (σ'.set i (some (.ref a))) H') :
    SD X ⟨false, wx⟩ ns c Wb W W' (.Try body [.ExceptHandler (some (.Name x np)) (some n) (b₀ :: suite) pos'] [] [] pos) (sTry S h) := by
  refine ps_weak (L2N.ps_try_as (tb := fun w1 => tDS X.K ⟨false, w1⟩ ns c Wb W W' S) (ts := ts) hs hf hN hi hln hc tk hb hsu) fun E σ H q => ?_
  obtain ⟨Hs0, H0, Hs, ρ, n, o, n', R, e, q⟩ := q
  unfold sTry at e
  split at e
  · rename_i y n1 h1
    split at e
    · rename_i d hd
      cases e
      refine ⟨Hs0, H0, Hs, ρ, n, _, _, R, h1, fun cls σ' Hs' H' W1 ρ' hx s2 R2 => ⟨true, hm y d cls hd hx, fun _ a ha => ?_, fun z => (nomatch z)⟩⟩
      exact hts y d cls hd hx a _ σ' Hs0 H0 Hs' H' W1 ρ' _ R2 ha fun v Hs2 H2 e2 c2 r2 => q v Hs2 H2 e2 c2 r2
    · cases e
  · refine ⟨Hs0, H0, Hs, ρ, n, o, n', R, e, ?_⟩
    cases o with
    | nx ρ' => exact q
    | rt d => exact q
    | bk ρ' => exact q
    | ct ρ' => exact q
    | ex y => rename_i hx; exact absurd e (hx _ _)
end
end DL
/-! DNb: the handled exception, a def called in an except suite, expressions whose parts may raise. -/
namespace DL
open PySem PySem.Spec PyProof.Rows L2
def excNames : List Str := ["InvalidPile", "InvalidBlock", "InvalidNumber", "InvalidContact", "InvalidPlace", "InvalidBounds", "InvalidHeld", "InvalidSide", "InvalidTower", "InvalidProps", "InvalidOffers", "Tips", "Stands", "Inside", "TooMany", "NothingToUndo", "ParseError"]
def isExc (y x : Str) : Bool := decide (y = x)
def hIsX (a : Addr) (y : Str) (b : Bool) : D → Option D
  | .dict [(.none, .none), (.str z, .int i)] => if z = y ∧ i = (a : Nat) then some (.bool b) else none
  | _ => none
/-- what a law asks of an exception: its class by name -/
structure ExcK (K : PySem.W.Frag) (y : Str) (C : Addr) : Prop where
  c : ExcC K C
  own : ∀ x ∈ excNames, ∃ B, PySem.W.nsIn K mainGlobals x = some (some (.ref B)) ∧ PySem.W.kitOne K (.ref C) (.ref B) = some (isExc y x)
  val : PySem.W.kitOne K (.ref C) (.type "ValueError") = some true
theorem call_isP {X : Cx} {a C : Addr} {ob : Obj} (hp : (a, ob) ∈ X.pn) (c : ExcC X.K C) (z : Zc (.ref C) none ob) (z2 : ∃ fs, ob.data = .fields fs) : CallR X (.builtin "isinstance") (rIsE X.K C a) := by
  rintro pins s σ H xs us Q I r ⟨k, kv, t, rfl, hk, ht, q⟩
  match us, r with
  | [_, u], .cons rx (.cons rt .nil) =>
    obtain rfl := hk u rt
    obtain ⟨cls, dct, dt, slts⟩ := ob
    obtain ⟨fs, z2⟩ := z2
    obtain ⟨z0, z1⟩ := z
    dsimp only at z0 z1 z2
    subst z0
    subst z1
    subst z2
    cases rx
    have J : PySem.W.InstAt s.heap a ⟨.ref C, none, .fields fs, slts⟩ C none := ⟨(I.pin _ (List.mem_append_left _ hp)).1, rfl, rfl, trivial⟩
    have T := PySem.W.handS_kitx_exc (x := a) (ox := ⟨.ref C, none, .fields fs, slts⟩) c.hg c.hk c.hs c.hd c.ha c.hn c.ht c.hm
    refine PySem.W.kia_one T I.kIn J ht (by intro w; cases w) fun tk => ?_
    exact ⟨.bl t, H, I.kept (t' := tk) (fun _ _ w => w), rfl, q⟩
section
variable {X : Cx} {ns : List Int} {c : Md} {W : List Nat} {a e : Expr} {f g : DEnv → M D} {pos p p2 apos : Pos}
theorem SRep.exc {K : PySem.W.Frag} {H : Hp} {v : V} {z : Str} {i : Int} (h : SRep K ns c H v (.dict [(.none, .none), (.str z, .int i)])) : ∃ b : Addr, v = .ref b ∧ i = (b : Nat) := by
  rcases h with h | ⟨h, _⟩ | ⟨h, _⟩ | ⟨_, _, _, _, _, _, _, _, _, _, h⟩ | ⟨b, o, x, r, h1, ⟨_, h2⟩ | ⟨_, ⟨w, h2⟩ | ⟨w, h2, _⟩⟩, h⟩
  · cases h
  · cases h
  · cases h
  · cases h
  · cases h
    rcases h2 with ⟨_, _, _, w, _⟩ | ⟨_, _, w, _⟩ <;> cases w
  · cases h
    cases h2
    exact ⟨b, h1, rfl⟩
  · cases h
    cases h2
/-- isinstance(e, C), e the exception at a0 -/
theorem ed_isX {a0 D : Addr} {y0 xt : Str} {b : Bool} {cV : V} {cv : Value} (HC : CallR X (.builtin "isinstance") (rIsE X.K D a0)) (hg : Gl X "isinstance") (hm : X.mg "isinstance" = none) (hT : PE X (.Name xt p2) (tC cV)) (hcv : ∀ u, RelV cV u → u = cv) (hk : PySem.W.kitOne X.K (.ref D) cv = some b) (ha : ED X ns c W a f)
    (hb : bootBuiltins "isinstance" = some (.builtin "isinstance") := by decide +kernel)
    (h1 : starEach [.Name xt p2] X.env = (false, eval (.Name xt p2) X.env) :: starEach [] X.env := by rfl)
    (h2 : starEach [a, .Name xt p2] X.env = (false, eval a X.env) :: starEach [.Name xt p2] X.env := by rfl) (hpl : (backTo pos (starEach [.Name xt p2] X.env)).any (·.1) = false := by rfl) :
    ED X ns c W (.Call (.Name "isinstance" p) [a, .Name xt p2] [] pos) (dUn (hIsX a0 y0 b) f) := by
  refine pe_weak (pe_callB HC hg hm hb (pa_cons ha (pa_cons hT pa_nil h1) h2) (by decide) (by decide) h2 hpl) fun σ H Q q => ?_
  obtain ⟨Hs0, H0, Hs, ρ, n, z, n', R, e, q⟩ := q
  obtain ⟨x, h1, h2⟩ := dUn_some e
  refine ⟨Hs0, H0, Hs, ρ, n, x, n', R, h1, fun v Hs1 H1 e1 c1 r1 => ?_⟩
  unfold hIsX at h2
  split at h2
  · rename_i z i
    obtain ⟨⟨h3, h4⟩, h5⟩ := Option.some_of_if h2
    cases h5
    obtain ⟨b', rfl, h6⟩ := r1.exc
    have : b' = a0 := by rw [h4] at h6; exact (Int.ofNat.inj h6).symm
    subst this
    exact ⟨cV, cv, b, rfl, hcv, hk, q _ Hs1 H1 e1 c1 (.inl (.bl _))⟩
  · cases h2
end
/-! ### list.count(True), list.index(True) of bools -/
def hCountT : D → D → Option D
  | .list ds, .bool true => (bools ds).map fun bs => .int (bs.count true : Nat)
  | _, _ => none
def hIndexT : D → D → Option D
  | .list ds, .bool true => match bools ds with
    | some bs => if bs.idxOf true < bs.length then some (.int (bs.idxOf true : Nat)) else none
    | none => none
  | _, _ => none
def rCountF (K : PySem.W.Frag) : V → List V → Hp → VK → Prop := fun x xs H Q => ∃ (a : Addr) (ys : List V) (y : V), x = V.ref a ∧ xs = [y] ∧ SqL K H a ys ∧ flatV y = true ∧ ys.all flatV = true ∧ Q (.int ((ys.countP fun z => eqV z y : Nat) : Int)) H
theorem countP_eqU {y : V} : ∀ {ys : List V} {us : List Value}, Vals ys us → ys.all flatV = true → us.countP (eqU y) = ys.countP fun z => eqV z y
  | _, _, .nil, _ => rfl
  | v :: ys, u :: us, .cons r t, f => by
    obtain ⟨f1, f2⟩ := Bool.and_eq_true_iff.mp (show (flatV v && ys.all flatV) = true from f)
    rw [List.countP_cons, List.countP_cons, countP_eqU t f2, eqU_of r f1]
theorem mt_countF {X : Cx} : MtR X "list.count" (rCountF X.K) := by
  rintro pins s σ H x xs v us Q I rx rxs ⟨a, ys, y, rfl, rfl, hq, f1, f2, q⟩
  cases rx
  obtain ⟨u, rfl, ru⟩ := rxs.one
  obtain ⟨its, rv, ⟨⟨cls, dct, dt, slts⟩, n, ho, z0, _, z1⟩, _⟩ := I.list hq
  dsimp only at z0 z1
  subst z0
  subst z1
  have hc := SeqAt.list_countAt a its.toArray n dct slts u (eqU y)
  refine call_meets PySem.F.slot_list_count ⟨_, ho, rfl⟩ PySem.F.entry_list_count (PySem.F.args_list_count_2 _ _) hc ?_
  refine ⟨ho, fun w hw => mem_eqAt ru f1 rv f2 w (by simpa using hw), ?_⟩
  have ec : its.toArray.toList.countP (eqU y) = ys.countP fun z => eqV z y := countP_eqU rv f2
  rw [ec]
  exact ⟨.int _, H, I.tok _, ⟨s.toks, rfl⟩, q⟩
theorem flat_bools (bs : List Bool) : (bs.map V.bl).all flatV = true := by
  rw [List.all_map]
  exact List.all_eq_true.mpr fun _ _ => rfl
theorem countP_bools : ∀ bs : List Bool, (bs.map V.bl).countP (fun z => eqV z (.bl true)) = bs.count true
  | [] => rfl
  | b :: bs => by
    rw [List.map_cons, List.countP_cons, List.count_cons, countP_bools bs]
    cases b <;> rfl
section
variable {X : Cx} {ns : List Int} {c : Md} {W : List Nat} {o e : Expr} {f g : DEnv → M D} {pos apos : Pos}
theorem ed_count (ho : ED X ns c W o f) (he : ED X ns c W e g) (hbase : attributeBase o "count" X.env (eval o X.env) = eval o X.env := by rfl) (hline : (apos.endLine == pos.line) = true := by rfl) (hs : starEach [e] X.env = (false, eval e X.env) :: starEach [] X.env := by rfl)
    (hfew : ((backTo pos (starEach [e] X.env)).all (fun x => !x.1) && (backToKw pos (keywordEach [] X.env)).all (fun x => x.1.isSome) && decide ([e].length + ([] : List Keyword).length + (if ([] : List Keyword).isEmpty then 0 else 1) < 30)) = true := by rfl) :
    ED X ns c W (.Call (.Attribute o "count" apos) [e] [] pos) (dBin hCountT f g) := by
  refine pe_weak (pe_bm PySem.F.plainAttrs_list PySem.F.slot_list_count PySem.F.type_list_count mt_countF ho (pa_cons he pa_nil hs) hbase hfew hline hs) fun σ H Q q => ?_
  obtain ⟨Hs0, H0, Hs, ρ, n, z, n', R, ee, q⟩ := q
  obtain ⟨x, n1, y, h1, h2, h3⟩ := dBin_some ee
  refine ⟨Hs0, H0, Hs, ρ, n, x, n1, R, h1, fun v Hs1 H1 e1 c1 r1 => ?_⟩
  have R1 := R.step e1 c1
  unfold hCountT at h3
  split at h3
  · rename_i ds
    obtain ⟨bs, hb, rfl⟩ := Option.map_eq_some_iff.mp h3
    obtain ⟨a, xs, rfl, ha, ra⟩ := r1.list
    have hx := bools_rp hb ra
    refine ⟨.inl ⟨rfl, _, SqL.of (R1.sub _ _ ha)⟩, Hs0, H0, Hs1, ρ, n1, _, n', R1, h2, fun w Hs2 H2 e2 c2 r2 => ?_⟩
    have R2 := R1.step e2 c2
    subst hx
    rw [r2.bool]
    refine ⟨a, _, _, rfl, rfl, SqL.of (R2.sub _ _ (e2.st _ _ ha)), rfl, flat_bools bs, ?_⟩
    rw [countP_bools]
    exact q _ Hs2 H2 (e1.trans c1 e2) c2 (.inl (.int _))
  · cases h3
theorem idx_bools : ∀ (bs : List Bool), bs.idxOf true < bs.length → (bs.map V.bl)[bs.idxOf true]? = some (.bl true) ∧ ∀ (m : Nat) (z : V), m < bs.idxOf true → (bs.map V.bl)[m]? = some z → eqV z (.bl true) = false
  | [], h => absurd h (by simp)
  | true :: bs, _ => by
    have e : (true :: bs).idxOf true = 0 := by simp [List.idxOf_cons]
    rw [e]
    exact ⟨rfl, fun m z h => absurd h (Nat.not_lt_zero _)⟩
  | false :: bs, h => by
    have e : (false :: bs).idxOf true = bs.idxOf true + 1 := by simp [List.idxOf_cons]
    rw [e] at h ⊢
    rw [List.length_cons] at h
    obtain ⟨h1, h2⟩ := idx_bools bs (by omega)
    refine ⟨by rw [List.map_cons, List.getElem?_cons_succ]; exact h1, fun m z hm hz => ?_⟩
    cases m with
    | zero => cases hz; rfl
    | succ m =>
      rw [List.map_cons, List.getElem?_cons_succ] at hz
      exact h2 m z (by omega) hz
theorem ed_index (ho : ED X ns c W o f) (he : ED X ns c W e g) (hbase : attributeBase o "index" X.env (eval o X.env) = eval o X.env := by rfl) (hline : (apos.endLine == pos.line) = true := by rfl) (hs : starEach [e] X.env = (false, eval e X.env) :: starEach [] X.env := by rfl)
    (hfew : ((backTo pos (starEach [e] X.env)).all (fun x => !x.1) && (backToKw pos (keywordEach [] X.env)).all (fun x => x.1.isSome) && decide ([e].length + ([] : List Keyword).length + (if ([] : List Keyword).isEmpty then 0 else 1) < 30)) = true := by rfl) :
    ED X ns c W (.Call (.Attribute o "index" apos) [e] [] pos) (dBin hIndexT f g) := by
  refine pe_weak (pe_bm PySem.F.plainAttrs_list PySem.F.slot_list_index PySem.F.type_list_index mt_index ho (pa_cons he pa_nil hs) hbase hfew hline hs) fun σ H Q q => ?_
  obtain ⟨Hs0, H0, Hs, ρ, n, z, n', R, ee, q⟩ := q
  obtain ⟨x, n1, y, h1, h2, h3⟩ := dBin_some ee
  refine ⟨Hs0, H0, Hs, ρ, n, x, n1, R, h1, fun v Hs1 H1 e1 c1 r1 => ?_⟩
  have R1 := R.step e1 c1
  unfold hIndexT at h3
  split at h3
  · rename_i ds
    split at h3
    · rename_i bs hb
      obtain ⟨hi, h4⟩ := Option.some_of_if h3
      cases h4
      obtain ⟨a, xs, rfl, ha, ra⟩ := r1.list
      have hx := bools_rp hb ra
      refine ⟨.inl ⟨rfl, _, SqL.of (R1.sub _ _ ha)⟩, Hs0, H0, Hs1, ρ, n1, _, n', R1, h2, fun w Hs2 H2 e2 c2 r2 => ?_⟩
      have R2 := R1.step e2 c2
      subst hx
      rw [r2.bool]
      obtain ⟨i1, i2⟩ := idx_bools bs hi
      exact ⟨a, _, _, _, _, rfl, rfl, SqL.of (R2.sub _ _ (e2.st _ _ ha)), rfl, flat_bools bs, i1, rfl, i2, q _ Hs2 H2 (e1.trans c1 e2) c2 (.inl (.int _))⟩
    · cases h3
  · cases h3
end
/-! ### a def that an except suite calls with the exception -/
structure FnHP (P : Program) (w : World) (K : PySem.W.Frag) (mg : Str → Option Value) (base : Heap) (k : Nat) (f : Addr) (fd : FuncData) (ps : List Str) (C : Addr) (sp : Addr → Sp) : Prop where
  len : ∀ a vs H Q E, sp a vs H Q E → vs.length = ps.length
  run : ∀ (A : Around) (outer : List Env) (s : Shared) (H : Hp) (args : Args) (us : List Value) (vs : List V) (Q : VK) (E : XK) (p : Addr × Obj), L2H.RoomH k A → L2H.Hot1 A p → L2H.PinOk outer H s p → Zc (.ref C) none p.2 → Env0 P w K mg base A outer s H → BindsTo s fd args (ps.zip us) → Vals vs us → sp p.1 vs H Q E →
    codeAny (model P w) A (.call (.ref f) args) (CR CX0 outer P w H s Q E) s
theorem fnHP_of {P : Program} {w : World} {K : PySem.W.Frag} {mg : Str → Option Value} {base : Heap} {x qual : Str} {st : Stmt} {f : Addr} {fd : FuncData} {N ps : List Str} {k : Nat} {C : Addr} {sp : Addr → Sp} (F : Fun K x qual st f fd) (S : FnScope N ps (defScope st))
    (len : ∀ a vs H Q E, sp a vs H Q E → vs.length = ps.length)
    (body : ∀ (cdv : Value) (A : Around) (outer : List Env) (s : Shared) (H : Hp) (vs : List V) (Q : VK) (E : XK) (p : Addr × Obj), L2H.Hot1 A p → Zc (.ref C) none p.2 → L2H.RoomH k (A.deeper (envOfC qual (defScope st) s.heap.objs.size f cdv)) → sp p.1 vs H Q E →
      ∃ t, PSs (L2H.cxH CX0 P w K mg base N qual (defScope st) f cdv A outer s H E p) (defBody st) t ∧ t { nx := fun _ H' => Q .non H', rt := Q } (L2.start N vs) H) :
    FnHP P w K mg base (k + 1) f fd ps C sp := by
  obtain ⟨oc, od, kV, doc, pm, an, cdv, ct, osl, rfl, lk, hcd⟩ := F.ex
  refine ⟨len, fun A outer s H args us vs Q E p hr hot hpin hz e0 hb r hsp => ?_⟩
  have hl := len _ _ _ _ _ hsp
  have kin : K.In s.heap := e0.mod.kin.keeps fun b _ h => (e0.bs b _ h).1
  have nol : s.heap.NoLimit := e0.mod.nolimit.keeps fun b _ h => (e0.bs b _ h).1
  have par : ∀ z ∈ ps.zip us, (defScope st).names.lookup z.1 = some .local ∨ ((defScope st).names.lookup z.1 = some .cell ∧ ((cellsFrom (s.heap.objs.size + 1) (defScope st).names []).lookup z.1).isSome = true) := by
    rintro ⟨m, u⟩ hm
    exact (S.par m (List.of_mem_zip hm).1).imp id fun h => ⟨h, PySem.W.cellsFrom_some _ _ _ (.inl h)⟩
  refine codeAny_call_function hr.depth (kin _ _ lk) rfl S.co S.gen rfl (PySem.W.codeRec_of kin hcd) (hb _ _ _ _ ?_)
  refine wpAny_newFunctionEnv_cells S.kind par fun env he s2 ic => ?_
  subst he
  obtain ⟨t, tp, tq⟩ := body cdv A outer s H vs Q E p hot hz (hr.deeper _) hsp
  have J := L2H.inv_startH (CX := CX0) (qual := qual) (E := E) (f := f) (cd := cdv) S hpin e0 hl r ic
  refine ⟨nol.keeps ic.toInCall.keep, codeAny_func ?_⟩
  refine wpAny_mono (tp.run [] s2 (L2.start N vs) H _ J tq) (fun fl s3 z => ?_) fun _ _ h => h
  cases fl with
  | next =>
    obtain ⟨σ', H', J', z⟩ := z
    exact (⟨V.non, H', J'.os, J'.bare, J'.base, J'.hok, rfl, z⟩ : CE outer P w H s Q .none s3)
  | ret u =>
    obtain ⟨v, σ', H', J', rv, z⟩ := z
    exact (⟨v, H', J'.os, J'.bare, J'.base, J'.hok, rv, z⟩ : CE outer P w H s Q u s3)
  | brk => exact False.elim z.choose_spec.choose_spec.2
  | cont => exact False.elim z.choose_spec.choose_spec.2
section
variable {X : Cx} {k : Nat} {f C : Addr} {fd : FuncData} {ps : List Str} {sp : Addr → Sp} {E : XK} {x : Str} {q pos : Pos} {e : Expr} {es : List Expr} {t : TA} {p : Addr × Obj}
def tCallHP (sp : Sp) (E : XK) (t : TA) : TE := fun σ H Q => t σ H fun vs H1 => sp vs H1 Q E
theorem pe_callHP (F : FnHP X.prog X.w X.K X.mg X.base k f fd ps C sp) (hr : L2H.RoomH k X.A) (hp : p ∈ X.pn) (hot : L2H.Hot1 X.A p) (hz : Zc (.ref C) none p.2) (hg : Gl X x) (hm : X.mg x = some (.ref f)) (hk : PySem.W.keepIn X.K (.ref f) = true) (hb : Binds X.K fd ps [])
    (ha : PA X (e :: es) t) (hdb : (x == ("__debug__" : Str)) = false := by decide) (he : starEach (e :: es) X.env = (false, eval e X.env) :: starEach es X.env := by rfl) (hpl : (backTo pos (starEach es X.env)).any (·.1) = false := by rfl) :
    PE X (.Call (.Name x q) (e :: es) [] pos) (tCallHP (sp p.1) E t) := by
  refine ⟨fun pins s σ H Q I h => ?_⟩
  refine wpAny_Call_Name_kw (ld_glob I hg hm ?_ hdb)
  have go := ha.run pos pins s σ H _ I h
  refine PySem.W.callWith_K (h₀ := X.base) I.ok.mod.kin hk (thn go fun us s1 ⟨vs, H1, J, r, w⟩ => ⟨J.kIn, ?_⟩) he hpl
  have b := hb s1 us J.kIn (by rw [List.append_nil, ← r.length]; exact F.len _ _ _ _ _ w)
  rw [List.append_nil] at b
  have P1 := J.pin p (List.mem_append_left _ hp)
  have nf : p.1 ∉ frs X.stack := fun hm => by
    rcases List.mem_cons.mp (J.stkSub p.1 hm) with z | z
    · exact P1.2.2.1 z
    · exact P1.2.2.2.1 z
  refine wpAny_call (codeAny_mono (F.run X.A X.stack s1 H1 ⟨us, []⟩ us vs Q E p hr hot ⟨P1.1, P1.2.1, nf, P1.2.2.2.2⟩ hz J.env0 b r w) fun rs s2 z => ?_)
  cases rs with
  | error u => exact False.elim z
  | ok fl =>
    cases fl with
    | ret u => exact J.after z
    | next => exact False.elim z
    | brk => exact False.elim z
    | cont => exact False.elim z
end
/-! ### what the suite says of an exception, by its class -/
/-- what _law_which answers of the class with this name -/
def whD (y : Str) : D := .tuple [.str (PySem.Str.ofString "raised"), .int (excNames.idxOf y : Nat)]
def spW (K : PySem.W.Frag) (ns : List Int) (m : List D → M D) (y : Str) (a : Addr) : Sp := fun vs H Q _ => ∃ c Hs n d n', vs = [.ref a] ∧ Same Hs H ∧ Cel c n H ∧ (∀ p, c = some p → Hs p.1 = none) ∧ m [mkEx a y] n = some (d, n') ∧ ∀ v Hs' H', Ext c Hs H Hs' H' → Cel c n' H' → SRep K ns c Hs' v d → Q v H'
/-- that def, under its name -/
structure CalW (P : Program) (w : World) (K : PySem.W.Frag) (mg : Str → Option Value) (base : Heap) (k : Nat) (x : Str) (m : Addr → Str → List D → M D) : Prop where
  ex : ∃ (f : Addr) (fd : FuncData) (ps : List Str), (∀ ns y C, ExcK K y C → FnHP P w K mg base k f fd ps C (fun a => spW K ns (m a y) y a)) ∧ mg x = some (.ref f) ∧ PySem.W.keepIn K (.ref f) = true ∧ Binds K fd ps []
  val : ∀ a y n, y ∈ excNames → m a y [mkEx a y] n = some (whD y, n)
theorem fn_W {P : Program} {w : World} {K : PySem.W.Frag} {mg : Str → Option Value} {base : Heap} {x qual e : Str} {st : Stmt} {f : Addr} {fd : FuncData} {N : List Str} {k : Nat} {C : Addr} {y : Str} {S : Addr → SDen} {W' : List Nat} (F : Fun K x qual st f fd) (Sc : FnScope N [e] (defScope st)) (ns : List Int)
    (body : ∀ (a : Addr) (c : Md) (cdv : Value) (A : Around) (outer : List Env) (s : Shared) (H : Hp) (E : XK) (p : Addr × Obj), L2H.RoomH k (A.deeper (envOfC qual (defScope st) s.heap.objs.size f cdv)) → CallR (L2H.cxH CX0 P w K mg base N qual (defScope st) f cdv A outer s H E p) (.builtin "isinstance") (rIsE K C p.1) →
      p.1 = a → SSD (L2H.cxH CX0 P w K mg base N qual (defScope st) f cdv A outer s H E p) ⟨false, fun _ _ _ _ => False⟩ ns c [] [] W' (defBody st) (S a)) (ek : ExcC K C) :
    FnHP P w K mg base (k + 1) f fd [e] C (fun a => spW K ns (fnD N.length (S a)) y a) := by
  refine fnHP_of F Sc (fun a vs H Q E h => ?_) fun cdv A outer s H vs Q E p hot hz hr h => ?_
  · obtain ⟨_, _, _, _, _, rfl, _⟩ := h
    rfl
  · obtain ⟨c, Hs, n, d, n', rfl, sm, cl, hc, hm, q⟩ := h
    obtain ⟨_, fs, hfs, _⟩ := hot
    refine ⟨_, body p.1 c cdv A outer s H E p hr (call_isP (List.mem_singleton.mpr rfl) ek hz ⟨fs, hfs⟩) rfl, ?_⟩
    have hl : 1 ≤ N.length := by have := congrArg List.length Sc.pre; rw [List.length_take] at this; simp at this; omega
    have rr : Paired (SRep K ns c Hs) [V.ref p.1] [mkEx p.1 y] := .cons (.inr (.inr (.inr (.inr ⟨p.1, .own p.1, _, _, rfl, .inr ⟨rfl, .inl ⟨y, rfl⟩⟩, rfl⟩)))) .nil
    unfold fnD at hm
    split at hm
    · rename_i d1 n1 h1
      cases hm
      exact ⟨Hs, H, Hs, _, n, _, _, start_rel (ds := [mkEx p.1 y]) hl sm cl hc rr, h1, q⟩
    · rename_i ρ1 n1 h1
      cases hm
      exact ⟨Hs, H, Hs, _, n, _, _, start_rel (ds := [mkEx p.1 y]) hl sm cl hc rr, h1, fun σ' Hs' H' _ R => q .non _ H' (R.frz [] (fun _ h => nomatch h)).ext R.cel (.inl .non)⟩
    · cases hm
end DL
/-! DNc: try with the def that tells which exception; calls whose arguments may raise; a def out of a tuple of defs. -/
namespace DL
open PySem PySem.Spec PyProof.Rows L2
def hWh (ys : List Str) (y : Str) : Option D := if y ∈ ys then some (whD y) else none
section
variable {X : Cx} {ns : List Int} {c : Md} {W W' Wb : List Nat} {x n xw : Str} {cv : Value} {i kk : Nat} {body : List Stmt} {np pos pos' p1 p2 p3 p4 : Pos} {wx : XW} {S : SDen} {ys : List Str} {m : Addr → Str → List D → M D}
theorem sd_tryW (CW : CalW X.prog X.w X.K X.mg X.base kk xw m) (hr : Room kk X.A) (hys : ∀ y ∈ ys, y ∈ excNames) (EK : ∀ y ∈ ys, ∃ C, PySem.W.nsIn X.K mainGlobals y = some (some (.ref C)) ∧ ExcK X.K y C ∧ PySem.W.exmOne X.K (.ref C) cv = some true)
    (hg : Gl X xw) (hs : X.stack = X.env :: X.outer) (hf : X.env.frame = some X.env.locals) (hN : X.N.Nodup) (hi : X.N[i]? = some n) (hln : X.env.kindOf n = some .local) (hc : Names X x cv) (tk : L2N.Takes X wx)
    (hb : ∀ (w1 : XW) (pn : List (Addr × Obj)) (xe : Value → Shared → Prop), L2N.Takes (X.tr pn xe) w1 → PassesOwn (model X.prog X.w) X.A X.env xe → SSD (X.tr pn xe) ⟨false, w1⟩ ns c Wb W W' body S)
    (hd : (n == ("__debug__" : Str)) = false := by decide) (hcd : (n == ("__classdict__" : Str)) = false := by decide) (hdw : (xw == ("__debug__" : Str)) = false := by decide)
    (he : ∀ Y : Cx, Y.env = X.env → starEach [.Name n p2] Y.env = (false, eval (.Name n p2) Y.env) :: starEach [] Y.env := by intro _ _; rfl) :
    SD X ⟨false, wx⟩ ns c Wb W W' (.Try body [.ExceptHandler (some (.Name x np)) (some n) [.Return (some (.Call (.Name xw p1) [.Name n p2] [] p3)) p4] pos'] [] [] pos) (sTry S (hWh ys)) := by
  obtain ⟨f, fd, ps, F, hm, hk, hbi⟩ := CW.ex
  refine sd_try (ts := fun a cls d E σ H => ∃ y C, y ∈ ys ∧ cls = .ref C ∧ d = none ∧ ExcK X.K y C ∧ (∃ σ0 : L2.St, σ = σ0.set i (some (.ref a))) ∧ spW X.K ns (m a y) y a [.ref a] H E.rt (fun _ _ _ => False)) hs hf hN hi hln hc tk hb
    (fun a oe cls d pn hz hfl => ⟨fun pins s σ H E I q => ?_⟩) (fun y d cls hd hx => ?_) (fun y d cls hd hx a E σ' Hs0 H0 Hs' H' W1 ρ' n' R ha q => ?_)
  · obtain ⟨y, C, hy, rfl, rfl, ek, ⟨σ0, rfl⟩, q⟩ := q
    have hil : i < σ0.length := by
      have := I.len
      rw [List.length_set] at this
      rw [this]
      exact (List.getElem?_eq_some_iff.mp hi).1
    obtain ⟨vs, hv⟩ := hfl
    have hot : L2H.Hot1 (X.suite a ((a, oe) :: pn)).A (a, oe) := ⟨rfl, vs, hv, hz.2.2 vs hv⟩
    have P := pss_one (ps_ret (pos := p4) (pe_callHP (X := X.suite a ((a, oe) :: pn)) (p := (a, oe)) (E := fun _ _ _ => False) (q := p1) (pos := p3) (F ns y C ek) ⟨hr.dp, hr.un⟩ List.mem_cons_self hot hz.zc hg hm hk hbi (pa_cons (pe_var hi (.inl hln) hd hcd) pa_nil (he _ rfl)) hdw (he _ rfl) rfl))
    exact P.run pins s _ H E I ⟨.ref a, List.getElem?_set_self hil, q⟩
  · unfold hWh at hd
    obtain ⟨hy, _⟩ := Option.some_of_if hd
    obtain ⟨C, h1, _, h2⟩ := EK y hy
    rw [hx] at h1
    cases h1
    exact h2
  · unfold hWh at hd
    obtain ⟨hy, hd⟩ := Option.some_of_if hd
    subst hd
    obtain ⟨C, h1, ek, h2⟩ := EK y hy
    rw [hx] at h1
    cases h1
    refine ⟨y, C, hy, rfl, rfl, ek, ⟨σ', rfl⟩, c, Hs', n', whD y, n', rfl, R.sub, R.cel, R.hc, CW.val a y n' (hys y hy), fun v Hs2 H2 e2 c2 r2 => q v Hs2 H2 (R.ext.trans R.cel e2) c2 r2⟩
end
/-! ### arguments, one of which may raise -/
def dLift (f : DEnv → M D) : DEnv → M (D ⊕ Str) := fun ρ n => match f ρ n with
  | some (d, n') => some (.inl d, n')
  | none => none
def dAsX : List (DEnv → M (D ⊕ Str)) → DEnv → M (List D ⊕ Str)
  | [], _, n => some (.inl [], n)
  | f :: fs, ρ, n => match f ρ n with
    | some (.inl x, n1) => match dAsX fs ρ n1 with
      | some (.inl xs, n2) => some (.inl (x :: xs), n2)
      | some (.inr y, n2) => some (.inr y, n2)
      | none => none
    | some (.inr y, n1) => some (.inr y, n1)
    | none => none
def dCallXA (m : List D → M (D ⊕ Str)) (A : DEnv → M (List D ⊕ Str)) : DEnv → M (D ⊕ Str) := fun ρ n => match A ρ n with
  | some (.inl ds, n1) => m ds n1
  | some (.inr y, n1) => some (.inr y, n1)
  | none => none
def liftM (m : List Int → List D → M D) (ns : List Int) (ds : List D) : M (D ⊕ Str) := fun n => match m ns ds n with
  | some (d, n') => some (.inl d, n')
  | none => none
def tXA (K : PySem.W.Frag) (ns : List Int) (c : Md) (W : List Nat) (wx : XW) (g : DEnv → M (List D ⊕ Str)) : TA := fun σ H Q => ∃ Hs0 H0 Hs ρ n r n', Rel K ns c W Hs0 H0 Hs H σ ρ n ∧ g ρ n = some (r, n') ∧
  match r with
  | .inl ds => ∀ vs Hs' H', Ext c Hs H Hs' H' → Cel c n' H' → Paired (SRep K ns c Hs') vs ds → Q vs H'
  | .inr x => ∀ cls Hs' H', PySem.W.nsIn K mainGlobals x = some (some cls) → Ext c Hs H Hs' H' → Cel c n' H' → wx cls none σ H'
abbrev AX (X : Cx) (wx : XW) (ns : List Int) (c : Md) (W : List Nat) (es : List Expr) (g : DEnv → M (List D ⊕ Str)) : Prop := PA X es (tXA X.K ns c W wx g)
theorem dAsX_len : ∀ {fs : List (DEnv → M (D ⊕ Str))} {ρ : DEnv} {n n' : Nat} {ds : List D}, dAsX fs ρ n = some (.inl ds, n') → ds.length = fs.length
  | [], _, _, _, _, h => by cases h; rfl
  | f :: fs, ρ, n, n', ds, h => by
    unfold dAsX at h
    split at h
    · split at h
      · rename_i h2
        cases h
        rw [List.length_cons, List.length_cons, dAsX_len h2]
      · cases h
      · cases h
    · cases h
    · cases h
section
variable {X : Cx} {fr : FR} {wx : XW} {ns : List Int} {c : Md} {W W' Wb : List Nat} {a b k e : Expr} {es : List Expr} {f g : DEnv → M (D ⊕ Str)} {fe : DEnv → M D} {t : DEnv → M Bool} {A : DEnv → M (List D ⊕ Str)} {pos p : Pos} {x : Str}
theorem ex_lift (h : ED X ns c W e fe) : EX X wx ns c W e (dLift fe) := by
  refine pe_weak h fun σ H Q q => ?_
  obtain ⟨Hs0, H0, Hs, ρ, n, r, n', R, e, q⟩ := q
  unfold dLift at e
  split at e
  · rename_i d n1 h1
    cases e
    exact ⟨Hs0, H0, Hs, ρ, n, _, _, R, h1, q⟩
  · cases e
theorem ax_nil : AX X wx ns c W [] (dAsX []) := by
  refine pa_weak pa_nil fun σ H Q q => ?_
  obtain ⟨Hs0, H0, Hs, ρ, n, r, n', R, e, q⟩ := q
  cases e
  exact q [] Hs H (ExtP.refl R.sub).ext R.cel .nil
theorem ax_cons {fs : List (DEnv → M (D ⊕ Str))} (ha : EX X wx ns c W e f) (hr : AX X wx ns c W es (dAsX fs)) (hs : starEach (e :: es) X.env = (false, eval e X.env) :: starEach es X.env := by rfl) : AX X wx ns c W (e :: es) (dAsX (f :: fs)) := by
  refine pa_weak (pa_cons ha hr hs) fun σ H Q q => ?_
  obtain ⟨Hs0, H0, Hs, ρ, n, z, n', R, e, q⟩ := q
  unfold dAsX at e
  split at e
  · rename_i x n1 h1
    split at e
    · rename_i xs n2 h2
      cases e
      refine ⟨Hs0, H0, Hs, ρ, n, _, _, R, h1, fun v Hs1 H1 e1 c1 r1 => ?_⟩
      exact ⟨Hs0, H0, Hs1, ρ, n1, .inl xs, _, R.step e1 c1, h2, fun vs Hs2 H2 e2 c2 r2 => q _ Hs2 H2 (e1.trans c1 e2) c2 (.cons (r1.same e2.st) r2)⟩
    · rename_i y n2 h2
      cases e
      refine ⟨Hs0, H0, Hs, ρ, n, _, _, R, h1, fun v Hs1 H1 e1 c1 r1 => ?_⟩
      exact ⟨Hs0, H0, Hs1, ρ, n1, .inr y, _, R.step e1 c1, h2, fun cls Hs2 H2 hx e2 c2 => q cls Hs2 H2 hx (e1.trans c1 e2) c2⟩
    · cases e
  · rename_i y n1 h1
    cases e
    exact ⟨Hs0, H0, Hs, ρ, n, .inr y, _, R, h1, q⟩
  · cases e
theorem ex_if (ht : TD X ns c W k t) (ha : EX X wx ns c W a f) (hb : EX X wx ns c W b g) : EX X wx ns c W (.IfExp k a b pos) (dIf t f g) := by
  refine pe_weak (pe_ifExp ht ha hb) fun σ H Q q => ?_
  obtain ⟨Hs0, H0, Hs, ρ, n, z, n', R, e, q⟩ := q
  obtain ⟨b, n1, h1, h2⟩ := dIf_some e
  refine ⟨Hs0, H0, Hs, ρ, n, b, n1, R, h1, fun Hs1 H1 e1 c1 => ?_⟩
  have R1 := R.step e1 c1
  cases z with
  | inl d =>
    rcases h2 with ⟨rfl, h2⟩ | ⟨rfl, h2⟩
    · exact iteT ⟨Hs0, H0, Hs1, ρ, n1, _, n', R1, h2, fun v Hs2 H2 e2 c2 r2 => q v Hs2 H2 (e1.trans c1 e2) c2 r2⟩
    · exact iteF ⟨Hs0, H0, Hs1, ρ, n1, _, n', R1, h2, fun v Hs2 H2 e2 c2 r2 => q v Hs2 H2 (e1.trans c1 e2) c2 r2⟩
  | inr x =>
    rcases h2 with ⟨rfl, h2⟩ | ⟨rfl, h2⟩
    · exact iteT ⟨Hs0, H0, Hs1, ρ, n1, _, n', R1, h2, fun cls Hs2 H2 hx e2 c2 => q cls Hs2 H2 hx (e1.trans c1 e2) c2⟩
    · exact iteF ⟨Hs0, H0, Hs1, ρ, n1, _, n', R1, h2, fun cls Hs2 H2 hx e2 c2 => q cls Hs2 H2 hx (e1.trans c1 e2) c2⟩
theorem ex_callA {kk ar : Nat} {m : List Int → List D → M (D ⊕ Str)} {fs : List (DEnv → M (D ⊕ Str))} (tk : L2N.Takes X wx) (C : CalX X.prog X.w X.K X.mg X.base kk x ar m) (hr : Room kk X.A) (hg : Gl X x) (ha : AX X wx ns c W (e :: es) (dAsX fs)) (har : fs.length = ar := by rfl) (hdb : (x == ("__debug__" : Str)) = false := by decide)
    (he : starEach (e :: es) X.env = (false, eval e X.env) :: starEach es X.env := by rfl) (hpl : (backTo pos (starEach es X.env)).any (·.1) = false := by rfl) : EX X wx ns c W (.Call (.Name x p) (e :: es) [] pos) (dCallXA (m ns) (dAsX fs)) := by
  obtain ⟨f, fd, ps, F, hm, hk, hb⟩ := C.ex
  refine pe_weak (pe_callS (F ns) hr hg hm hk hb (fun σ => L2N.passAt tk σ) ha hdb he hpl) fun σ H Q q => ?_
  obtain ⟨Hs0, H0, Hs, ρ, n, r, n', R, e, q⟩ := q
  unfold dCallXA at e
  split at e
  · rename_i ds n1 h1
    refine ⟨Hs0, H0, Hs, ρ, n, .inl ds, n1, R, h1, fun vs Hs1 H1 e1 c1 r1 => ?_⟩
    have R1 := R.step e1 c1
    show spX X.K ns ar (m ns) vs H1 Q _
    refine ⟨by rw [(Paired.length r1 : _ = _)]; exact (dAsX_len h1).trans har, c, Hs1, ds, n1, r, n', R1.sub, c1, R1.hc, r1, e, ?_⟩
    cases r with
    | inl d => exact fun v Hs2 H2 e2 c2 r2 => q v Hs2 H2 (e1.trans c1 e2) c2 r2
    | inr x => exact fun cls Hs2 H2 hx e2 c2 => q cls Hs2 H2 hx (e1.trans c1 e2) c2
  · rename_i y n1 h1
    cases e
    exact ⟨Hs0, H0, Hs, ρ, n, .inr y, _, R, h1, q⟩
  · cases e
end
/-! ### what doesn't raise, as what may -/
theorem CalX.mono {P : Program} {w : World} {K : PySem.W.Frag} {mg : Str → Option Value} {base : Heap} {k k' : Nat} {x : Str} {ar : Nat} {m : List Int → List D → M (D ⊕ Str)} (C : CalX P w K mg base k x ar m) (h : k ≤ k') : CalX P w K mg base k' x ar m := by
  obtain ⟨f, fd, ps, F, r⟩ := C.ex
  exact ⟨f, fd, ps, fun ns => (F ns).mono h, r⟩
theorem calX_of {P : Program} {w : World} {K : PySem.W.Frag} {mg : Str → Option Value} {base : Heap} {k : Nat} {x : Str} {ar : Nat} {m : List Int → List D → M D} (C : CalD P w K mg base k x ar m) : CalX P w K mg base k x ar (liftM m) := by
  obtain ⟨f, fd, ps, F, r⟩ := C.ex
  have cv : ∀ ns vs H Q E, spX K ns ar (liftM m ns) vs H Q E → spD K ns ar (m ns) vs H Q E := fun ns vs H Q E h => by
    obtain ⟨hl, c, Hs, ds, n, r, n', sm, cl, hc, rr, e, q⟩ := h
    unfold liftM at e
    split at e
    · rename_i d n1 h1
      cases e
      exact ⟨hl, c, Hs, ds, n, d, _, sm, cl, hc, rr, h1, q⟩
    · cases e
  refine ⟨f, fd, ps, fun ns => ⟨fun vs H Q E h => (F ns).len vs H Q E (cv ns vs H Q E h), fun A outer s H args us vs Q E hr he hb hv h => ?_⟩, r⟩
  refine codeAny_mono ((F ns).run A outer s H args us vs Q E hr he hb hv (cv ns vs H Q E h)) fun z s' hz => ?_
  cases z with
  | ok fl => cases fl <;> exact hz
  | error u => exact False.elim hz
/-! ### one of several defs, by number -/
inductive Both {α β : Type} (R : α → β → Prop) : List α → List β → Prop
  | nil : Both R [] []
  | cons {x : α} {y : β} {xs : List α} {ys : List β} : R x y → Both R xs ys → Both R (x :: xs) (y :: ys)
inductive Picks (X : Cx) (kk ar : Nat) : List Expr → List (List Int → List D → M (D ⊕ Str)) → Prop
  | nil : Picks X kk ar [] []
  | cons {x : Str} {p : Pos} {m : List Int → List D → M (D ⊕ Str)} {es : List Expr} {ms : List (List Int → List D → M (D ⊕ Str))} (C : CalX X.prog X.w X.K X.mg X.base kk x ar m) (hg : Gl X x) (r : Picks X kk ar es ms)
      (hd : (x == ("__debug__" : Str)) = false := by decide) (hs : starEach (.Name x p :: es) X.env = (false, eval (.Name x p) X.env) :: starEach es X.env := by rfl) : Picks X kk ar (.Name x p :: es) (m :: ms)
def dPick (ns : List Int) (ms : List (List Int → List D → M (D ⊕ Str))) (idx : DEnv → M D) (A : DEnv → M (List D)) : DEnv → M (D ⊕ Str) := fun ρ n => match idx ρ n with
  | some (.int i, n1) => match atI ms i with
    | some m => match A ρ n1 with
      | some (ds, n2) => m ns ds n2
      | none => none
    | none => none
  | _ => none
/-- what stands behind a def's name -/
def PickAt (X : Cx) (kk ar : Nat) (v : V) (m : List Int → List D → M (D ⊕ Str)) : Prop := ∃ (f : Addr) (fd : FuncData) (ps : List Str), v = .ref f ∧ (∀ ns, FnOk X.prog X.w X.K X.mg X.base (L2N.CX X.prog X.w) kk f fd ps (spX X.K ns ar (m ns))) ∧ PySem.W.keepIn X.K (.ref f) = true ∧ Binds X.K fd ps []
theorem Picks.pa {X : Cx} {kk ar : Nat} {es : List Expr} {ms : List (List Int → List D → M (D ⊕ Str))} (h : Picks X kk ar es ms) : ∃ vs : List V, vs.length = es.length ∧ Both (PickAt X kk ar) vs ms ∧ PA X es (fun σ H Q => Q vs H) := by
  induction h with
  | nil => exact ⟨[], rfl, .nil, pa_nil⟩
  | @cons x p m es ms C hg r hd hs ih =>
    obtain ⟨vs, h0, h1, h2⟩ := ih
    obtain ⟨f, fd, ps, F, hm, hk, hb⟩ := C.ex
    exact ⟨.ref f :: vs, by rw [List.length_cons, List.length_cons, h0], .cons ⟨f, fd, ps, rfl, F, hk, hb⟩ h1, pa_cons (pe_glob (v := .ref f) hg hm rfl hd) h2 hs⟩
theorem forall2_at {α β : Type} {R : α → β → Prop} : ∀ {xs : List α} {ys : List β} {i : Int} {y : β}, Both R xs ys → atI ys i = some y → ∃ x, atI xs i = some x ∧ R x y := by
  have nat : ∀ {xs : List α} {ys : List β} {j : Nat} {y : β}, Both R xs ys → ys[j]? = some y → ∃ x, xs[j]? = some x ∧ R x y := by
    intro xs ys j y h
    induction h generalizing j with
    | nil => intro e; simp at e
    | cons r t ih =>
      intro e
      cases j with
      | zero => cases e; exact ⟨_, rfl, r⟩
      | succ j => exact ih e
  intro xs ys i y h e
  have hl : xs.length = ys.length := by
    clear e
    induction h with
    | nil => rfl
    | cons _ _ ih => rw [List.length_cons, List.length_cons, ih]
  unfold atI at e ⊢
  rw [hl]
  cases q : ixN ys.length i with
  | none => rw [q] at e; cases e
  | some j =>
    rw [q] at e
    exact nat h e
section
variable {X : Cx} {wx : XW} {ns : List Int} {c : Md} {W : List Nat} {ix e : Expr} {gs es : List Expr} {f : DEnv → M D} {pos p p0 : Pos} {pt : Nat}
theorem ex_pick {kk ar : Nat} {ms : List (List Int → List D → M (D ⊕ Str))} {fs : List (DEnv → M D)} (tk : L2N.Takes X wx) (C : Picks X kk ar gs ms) (hr : Room kk X.A) (hi : ED X ns c W ix f) (ha : AD X ns c W (e :: es) (dAs fs)) (har : fs.length = ar := by rfl) (hlim : gs.length ≤ 100 := by decide) (hs : PlainIx ix := by exact fun _ _ => rfl)
    (ht : eval (.Call (.Subscript (.Tuple gs pt p0) ix p) (e :: es) [] pos) X.env = (do callWith pos (← eval (.Subscript (.Tuple gs pt p0) ix p) X.env) [] (backTo pos (starEach (e :: es) X.env)) (backToKw pos (keywordEach [] X.env))) := by rfl)
    (he : starEach (e :: es) X.env = (false, eval e X.env) :: starEach es X.env := by rfl) (hpl : (backTo pos (starEach es X.env)).any (·.1) = false := by rfl) : EX X wx ns c W (.Call (.Subscript (.Tuple gs pt p0) ix p) (e :: es) [] pos) (dPick ns ms f (dAs fs)) := by
  obtain ⟨ws, hwn, hw, hp⟩ := C.pa
  refine ⟨fun pins s σ H Q I h => ?_⟩
  obtain ⟨Hs0, H0, Hs, ρ, n, r, n', R, ee, q⟩ := h
  unfold dPick at ee
  split at ee
  · rename_i i n1 h1
    split at ee
    · rename_i m hm
      split at ee
      · rename_i ds n2 h2
        obtain ⟨v, hv, g, fd, ps, rfl, F, hk, hb⟩ := forall2_at hw hm
        have hwl : ws.length ≤ sizeLine := by rw [hwn, sizeLine_eq]; omega
        have callee := (pe_ix (pos := p) ix_seq (pe_tup (x1 := pt) (pos := p0) hp) hi hs).run pins s σ H (fun u H1 => u = .ref g ∧ ∃ Hs1, Ext c Hs H Hs1 H1 ∧ Cel c n1 H1) I ⟨hwl, fun a ha => ?_⟩
        · refine Call_ (thn callee fun u s1 ⟨y, H1, I1, ry, ey, Hs1, e1, c1⟩ => ?_) ht
          subst ey
          obtain rfl : u = Value.ref g := ry
          have R1 := R.step e1 c1
          have go := ha.run pos pins s1 σ H1 (fun vs H2 => spX X.K ns ar (m ns) vs H2 Q (WE wx σ)) I1 ⟨Hs0, H0, Hs1, ρ, n1, ds, n2, R1, h2, fun vs Hs2 H2 e2 c2 r2 => ?_⟩
          · refine PySem.W.callWith_K (h₀ := X.base) I1.ok.mod.kin hk (thn go fun us s2 ⟨vs, H2, I2, r2, w⟩ => ⟨I2.kIn, ?_⟩) he hpl
            exact run_fnS (F ns) hr hb (L2N.passAt tk σ) I2 r2 w
          · refine ⟨by rw [(Paired.length r2 : _ = _)]; exact (dAs_len h2).trans har, c, Hs2, ds, n2, r, n', (R1.step e2 c2).sub, c2, (R1.step e2 c2).hc, r2, ee, ?_⟩
            have e12 := e1.trans c1 e2
            cases r with
            | inl d => exact fun v Hs3 H3 e3 c3 r3 => q v Hs3 H3 (e12.trans c2 e3) c3 r3
            | inr x => exact fun cls Hs3 H3 hx e3 c3 => q cls Hs3 H3 hx (e12.trans c2 e3) c3
        · have e0 := ExtP.new1 (o := .tup ws) R.sub ha
          refine ⟨Hs0, H0, _, ρ, n, _, n1, R.stepP e0, h1, fun w Hs1 H1 e1 c1 r1 => ?_⟩
          rw [r1.int]
          exact .inr (.inl ⟨a, ws, i, .ref g, rfl, rfl, .inl (.inl ((R.stepP e0).step e1 c1 |>.sub _ _ (e1.st _ _ upd_same))), hv, rfl, Hs1, e0.ext.trans (e0.cel R.cel) e1, c1⟩)
      · cases ee
    · cases ee
  · cases ee
end
end DL
/-! DNd: raise C('text'); isinstance of own classes; the facts of the classes, as one check. -/
namespace DL
open PySem PySem.Spec PyProof.Rows L2
abbrev excB0 : List Value := [.type "ValueError", .type "Exception", .type "BaseException", .type "object"]
structure RaisK (K : PySem.W.Frag) (mg : Str → Option Value) (x : Str) : Prop where
  ex : ∃ C, PySem.W.nsIn K mainGlobals x = some (some (.ref C)) ∧ mg x = some (.ref C) ∧ PySem.W.excIn K C excB0 "ValueError.__new__" = true ∧ PySem.W.keepIn K (.ref C) = true ∧ PySem.W.subIn K (.ref C) (.type "BaseException") = some true ∧ PySem.W.typeIn K (.ref C) = some (.type "type")
section
variable {X : Cx} {fr : FR} {ns : List Int} {c : Md} {W W' Wb : List Nat} {a e : Expr} {f g : DEnv → M D} {pos p p2 p3 : Pos} {x m : Str} {j : Nat}
theorem sd_raiseO (R : RaisK X.K X.mg x) (tk : L2N.Takes X fr.wx) (hg : Gl X x) (hc : X.calm = true := by rfl) (hdb : (x == ("__debug__" : Str)) = false := by decide) {jj : Option Str} : SD X fr ns c Wb W W' (.Raise (some (.Call (.Name x p) [.Constant (.str m) j p2] [] p3)) none pos) (sRaise x) := by
  obtain ⟨C, h1, h2, h3, h4, h5, h6⟩ := R.ex
  exact sd_raise hc tk (L2N.pmk_own PySem.F.excBase_ValueError h3 h2 h4 (raises_own h5 h6) hg hdb) h1
theorem ed_isO {a0 D : Addr} {y0 xt : Str} (EK : ExcK X.K y0 D) (HC : CallR X (.builtin "isinstance") (rIsE X.K D a0)) (hx : xt ∈ excNames) (MG : ∀ x v, PySem.W.nsIn X.K mainGlobals x = some (some v) → X.mg x = some v) (hg : Gl X "isinstance") (hm : X.mg "isinstance" = none) (hgx : Gl X xt) (ha : ED X ns c W a f)
    (hd : (xt == ("__debug__" : Str)) = false := by decide)
    (hb : bootBuiltins "isinstance" = some (.builtin "isinstance") := by decide +kernel)
    (h1 : starEach [.Name xt p2] X.env = (false, eval (.Name xt p2) X.env) :: starEach [] X.env := by rfl)
    (h2 : starEach [a, .Name xt p2] X.env = (false, eval a X.env) :: starEach [.Name xt p2] X.env := by rfl) (hpl : (backTo pos (starEach [.Name xt p2] X.env)).any (·.1) = false := by rfl) :
    ED X ns c W (.Call (.Name "isinstance" p) [a, .Name xt p2] [] pos) (dUn (hIsX a0 y0 (isExc y0 xt)) f) := by
  obtain ⟨B, h3, h4⟩ := EK.own xt hx
  exact ed_isX (cV := .ref B) (cv := .ref B) HC hg hm (pe_glob (v := .ref B) hgx (MG _ _ h3) rfl hd) (fun u hu => hu) h4 ha hb h1 h2 hpl
theorem ed_isV {a0 D : Addr} {y0 : Str} (EK : ExcK X.K y0 D) (HC : CallR X (.builtin "isinstance") (rIsE X.K D a0)) (hg : Gl X "isinstance") (hm : X.mg "isinstance" = none) (hgx : Gl X "ValueError") (hmx : X.mg "ValueError" = none) (ha : ED X ns c W a f)
    (hb : bootBuiltins "isinstance" = some (.builtin "isinstance") := by decide +kernel) (hb2 : bootBuiltins "ValueError" = some (.type "ValueError") := by decide +kernel)
    (h1 : starEach [.Name "ValueError" p2] X.env = (false, eval (.Name "ValueError" p2) X.env) :: starEach [] X.env := by rfl)
    (h2 : starEach [a, .Name "ValueError" p2] X.env = (false, eval a X.env) :: starEach [.Name "ValueError" p2] X.env := by rfl) (hpl : (backTo pos (starEach [.Name "ValueError" p2] X.env)).any (·.1) = false := by rfl) :
    ED X ns c W (.Call (.Name "isinstance" p) [a, .Name "ValueError" p2] [] pos) (dUn (hIsX a0 y0 true) f) :=
  ed_isX (cV := .ty "ValueError") (cv := .type "ValueError") HC hg hm (pe_bltn hgx hmx hb2 rfl) (fun u hu => hu) EK.val ha hb h1 h2 hpl
end
/-! ### one check for all classes -/
def optB {α : Type} [DecidableEq α] (o : Option α) (v : Option α) : Bool := decide (o = v)
def excCB (K : PySem.W.Frag) (C : Addr) : Bool :=
  (PySem.W.findIn K (.ref C) "__getattribute__" == some (some (.builtin "BaseException.__getattribute__"))) && ((PySem.W.findIn K (.ref C) "__getattr__" == some none) && ((PySem.W.subIn K (.ref C) (.type "BaseException") == some true) && (PySem.W.hasDictIn K C && ((PySem.W.findIn K (.ref C) "__class__" == some (some (.builtin "object.__class__"))) &&
    ((PySem.W.specialIn K (.builtin "object.__class__") "__get__" == some (some (.builtin "getset_descriptor.__get__"))) && ((PySem.W.takesIn K (.builtin "object.__class__") == some true) && (PySem.W.mroIn K C (.type "object") == some true)))))))
theorem excCB_of {K : PySem.W.Frag} {C : Addr} (h : excCB K C = true) : ExcC K C := by
  unfold excCB at h
  simp only [Bool.and_eq_true, beq_iff_eq] at h
  obtain ⟨h1, h2, h3, h4, h5, h6, h7, h8⟩ := h
  exact ⟨h1, h2, h3, h4, h5, h6, h7, h8⟩
def ownB (K : PySem.W.Frag) (y : Str) (C : Addr) (x : Str) : Bool := match PySem.W.nsIn K mainGlobals x with
  | some (some (.ref B)) => PySem.W.kitOne K (.ref C) (.ref B) == some (isExc y x)
  | _ => false
def clsB (K : PySem.W.Frag) (cP : Value) (y : Str) : Bool := match PySem.W.nsIn K mainGlobals y with
  | some (some (.ref C)) => excCB K C && (excNames.all (ownB K y C) && ((PySem.W.kitOne K (.ref C) (.type "ValueError") == some true) && (PySem.W.exmOne K (.ref C) cP == some true)))
  | _ => false
theorem clsB_of {K : PySem.W.Frag} {cP : Value} {y : Str} (h : clsB K cP y = true) : ∃ C, PySem.W.nsIn K mainGlobals y = some (some (.ref C)) ∧ ExcK K y C ∧ PySem.W.exmOne K (.ref C) cP = some true := by
  unfold clsB at h
  split at h
  · rename_i C hC
    simp only [Bool.and_eq_true, beq_iff_eq] at h
    obtain ⟨h1, h2, h3, h4⟩ := h
    refine ⟨C, hC, ⟨excCB_of h1, fun x hx => ?_, h3⟩, h4⟩
    have := List.all_eq_true.mp h2 x hx
    unfold ownB at this
    split at this
    · rename_i B hB
      exact ⟨B, hB, beq_iff_eq.mp this⟩
    · cases this
  · cases h
theorem clsAll_of {K : PySem.W.Frag} {cP : Value} {ys : List Str} (h : ys.all (clsB K cP) = true) : ∀ y ∈ ys, ∃ C, PySem.W.nsIn K mainGlobals y = some (some (.ref C)) ∧ ExcK K y C ∧ PySem.W.exmOne K (.ref C) cP = some true := fun y hy => clsB_of (List.all_eq_true.mp h y hy)
def raisB (K : PySem.W.Frag) (x : Str) : Bool := match PySem.W.nsIn K mainGlobals x with
  | some (some (.ref C)) => PySem.W.excIn K C excB0 "ValueError.__new__" && (PySem.W.keepIn K (.ref C) && ((PySem.W.subIn K (.ref C) (.type "BaseException") == some true) && (PySem.W.typeIn K (.ref C) == some (.type "type"))))
  | _ => false
theorem raisB_of {K : PySem.W.Frag} {mg : Str → Option Value} {x : Str} (MG : ∀ x v, PySem.W.nsIn K mainGlobals x = some (some v) → mg x = some v) (h : raisB K x = true) : RaisK K mg x := by
  unfold raisB at h
  split at h
  · rename_i C hC
    simp only [Bool.and_eq_true, beq_iff_eq] at h
    obtain ⟨h1, h2, h3, h4⟩ := h
    exact ⟨C, hC, MG _ _ hC, h1, h2, h3, h4⟩
  · cases h
/-- fn_X, with what the body may use of its context -/
theorem fn_X2 {P : Program} {w : World} {K : PySem.W.Frag} {mg : Str → Option Value} {base : Heap} {x qual : Str} {st : Stmt} {f : Addr} {fd : FuncData} {N ps : List Str} {k : Nat} {S : SDen} {W' : List Nat} (F : Fun K x qual st f fd) (Sc : FnScope N ps (defScope st)) (ns : List Int)
    (body : ∀ (c : Md) (cdv : Value) (A : Around) (outer : List Env) (s : Shared) (H : Hp) (E : XK), Room k (A.deeper (envOfC qual (defScope st) s.heap.objs.size f cdv)) → L2N.Takes (cxOf (L2N.CX P w) P w K mg base N qual (defScope st) f cdv A outer s H E) (fun cls d _ H => E cls d H) →
      PassesOwn (model P w) (cxOf (L2N.CX P w) P w K mg base N qual (defScope st) f cdv A outer s H E).A (cxOf (L2N.CX P w) P w K mg base N qual (defScope st) f cdv A outer s H E).env (cxOf (L2N.CX P w) P w K mg base N qual (defScope st) f cdv A outer s H E).xe →
      SSD (cxOf (L2N.CX P w) P w K mg base N qual (defScope st) f cdv A outer s H E) ⟨false, fun cls d _ H => E cls d H⟩ ns c [] [] W' (defBody st) S) :
    FnOk P w K mg base (L2N.CX P w) (k + 1) f fd ps (spX K ns ps.length (fnX N.length S)) :=
  fn_X F Sc ns fun c cdv A outer s H E hr => body c cdv A outer s H E hr (L2N.takes_of rfl rfl rfl rfl) (passes_of rfl)
theorem takes_no {X : Cx} : L2N.Takes X (fun _ _ _ _ => False) := fun _ _ h => by
  obtain ⟨_, _, _, _, _, _, _, _, _, _, _, _, _, _, _, _, h⟩ := h
  exact h.elim
end DL
namespace DL
open PySem PySem.Spec PyProof.Rows L2
theorem unH {k : Nat} {A : Around} (r : L2H.RoomH k A) : A.units + 64 < cLine := by have := r.un; omega
end DL
namespace DL
open PySem PySem.Spec PyProof.Rows L2
theorem hIsX_self (a : Addr) (y : Str) (b : Bool) : hIsX a y b (mkEx a y) = some (.bool b) := by
  unfold hIsX
  exact if_pos ⟨rfl, rfl⟩
end DL
/-! DNe: operators on bits; tuple(range(n)), list(range(n)). -/
namespace DL
open PySem PySem.Spec PyProof.Rows L2
def hShl : D → D → Option D
  | .int i, .int j => if 0 ≤ j ∧ j ≤ 1000000 ∧ i.natAbs < 2 ^ 64 then some (.int (i * 2 ^ j.toNat)) else none
  | _, _ => none
def hShr : D → D → Option D
  | .int i, .int j => if 0 ≤ j then some (.int (i / 2 ^ j.toNat)) else none
  | _, _ => none
def hBand : D → D → Option D
  | .int i, .int j => some (.int (Builtin.bitAnd i j))
  | _, _ => none
def hBor : D → D → Option D
  | .int i, .int j => some (.int (Builtin.bitOr i j))
  | _, _ => none
section
variable {K : PySem.W.Frag}
theorem r2_shl : R2D K (rI CPow fun i j => .int (i * 2 ^ j.toNat)) hShl :=
  r2_int (fun x y z h => by cases x <;> cases y <;> first | exact ⟨_, _, rfl, rfl⟩ | cases h) fun i j z H Q h q => by
    obtain ⟨p, rfl⟩ := Option.some_of_if h
    exact ⟨i, j, rfl, rfl, p, q _ fun _ _ => .int _⟩
theorem r2_shr : R2D K (rI (fun _ j => 0 ≤ j) fun i j => .int (i / 2 ^ j.toNat)) hShr :=
  r2_int (fun x y z h => by cases x <;> cases y <;> first | exact ⟨_, _, rfl, rfl⟩ | cases h) fun i j z H Q h q => by
    obtain ⟨p, rfl⟩ := Option.some_of_if h
    exact ⟨i, j, rfl, rfl, p, q _ fun _ _ => .int _⟩
theorem r2_band : R2D K (rI0 fun i j => .int (Builtin.bitAnd i j)) hBand :=
  r2_int (fun x y z h => by cases x <;> cases y <;> first | exact ⟨_, _, rfl, rfl⟩ | cases h) fun i j z H Q h q => by cases h; exact ⟨i, j, rfl, rfl, q _ fun _ _ => .int _⟩
theorem r2_bor : R2D K (rI0 fun i j => .int (Builtin.bitOr i j)) hBor :=
  r2_int (fun x y z h => by cases x <;> cases y <;> first | exact ⟨_, _, rfl, rfl⟩ | cases h) fun i j z H Q h q => by cases h; exact ⟨i, j, rfl, rfl, q _ fun _ _ => .int _⟩
end
section
variable {X : Cx} {ns : List Int} {c : Md} {W : List Nat} {a b e : Expr} {f g : DEnv → M D} {A : DEnv → M (List D)} {pos p p2 p3 : Pos}
theorem ed_shl (ha : ED X ns c W a f) (hb : ED X ns c W b g) : ED X ns c W (.BinOp a .LShift b pos) (dBin hShl f g) := ed_op op_shl r2_shl ha hb
theorem ed_shr (ha : ED X ns c W a f) (hb : ED X ns c W b g) : ED X ns c W (.BinOp a .RShift b pos) (dBin hShr f g) := ed_op op_shr r2_shr ha hb
theorem ed_band (ha : ED X ns c W a f) (hb : ED X ns c W b g) : ED X ns c W (.BinOp a .BitAnd b pos) (dBin hBand f g) := ed_op op_and r2_band ha hb
theorem ed_bor (ha : ED X ns c W a f) (hb : ED X ns c W b g) : ED X ns c W (.BinOp a .BitOr b pos) (dBin hBor f g) := ed_op op_or r2_bor ha hb
theorem rgV_rp {K : PySem.W.Frag} {H : Hp} (b : Int) : RpAll K H (rgV 0 b) (rangeD 0 b.toNat) := by
  have key : ∀ l : List Nat, RpAll K H (l.map fun i => V.int (0 + (i : Nat))) (l.map fun i => PyData.int (0 + (i : Nat))) := by
    intro l
    induction l with
    | nil => exact .nil
    | cons a t ih => exact .cons (.int _) ih
  unfold rgV rangeD
  rw [Int.sub_zero]
  exact key _
def hTupRg : D → Option D
  | .int j => if -1000000 ≤ j ∧ j ≤ 16777216 then some (.tuple (rangeD 0 j.toNat)) else none
  | _ => none
def hLstRg : D → Option D
  | .int j => if -1000000 ≤ j ∧ j ≤ 16777216 then some (.list (rangeD 0 j.toNat)) else none
  | _ => none
/-- tuple(range(n)) -/
theorem ed_tupRg (hgt : Gl X "tuple") (hmt : X.mg "tuple" = none) (hgr : Gl X "range") (hmr : X.mg "range" = none) (ha : ED X ns c W a f) (hc : X.calm = true := by rfl) (n1 : starEach [a] X.env = (false, eval a X.env) :: starEach [] X.env := by rfl)
    (n2 : starEach [.Call (.Name "range" p) [a] [] pos] X.env = (false, eval (.Call (.Name "range" p) [a] [] pos) X.env) :: starEach [] X.env := by rfl) : ED X ns c W (.Call (.Name "tuple" p2) [.Call (.Name "range" p) [a] [] pos] [] p3) (dUn hTupRg f) := by
  refine pe_weak (pe_tupRg hc hgt hmt (prg_1 hgr hmr ha n1) n2) fun σ H Q q => ?_
  obtain ⟨Hs0, H0, Hs, ρ, n, z, n', R, e, q⟩ := q
  obtain ⟨x, h1, h2⟩ := dUn_some e
  refine ⟨Hs0, H0, Hs, ρ, n, x, n', R, h1, fun v Hs1 H1 e1 c1 r1 => ?_⟩
  unfold hTupRg at h2
  split at h2
  · rename_i j
    obtain ⟨hj, h3⟩ := Option.some_of_if h2
    cases h3
    rw [r1.int]
    refine ⟨j, rfl, ⟨by decide, by decide, by omega, by omega, by omega⟩, fun q1 hq => ?_⟩
    have e2 := ExtP.new1 (o := .tup (rgV 0 j)) (R.step e1 c1).sub hq
    exact q _ _ _ (e1.trans c1 e2.ext) (e2.cel c1) (.inl (.tup (SqT.of upd_same) (rgV_rp j)))
  · cases h2
/-- list(range(n)) -/
theorem fd_lstRg (hgt : Gl X "list") (hmt : X.mg "list" = none) (hgr : Gl X "range") (hmr : X.mg "range" = none) (ha : ED X ns c W a f) (hc : X.calm = true := by rfl) (n1 : starEach [a] X.env = (false, eval a X.env) :: starEach [] X.env := by rfl)
    (n2 : starEach [.Call (.Name "range" p) [a] [] pos] X.env = (false, eval (.Call (.Name "range" p) [a] [] pos) X.env) :: starEach [] X.env := by rfl) : FD X ns c W (.Call (.Name "list" p2) [.Call (.Name "range" p) [a] [] pos] [] p3) (dUn hLstRg f) := by
  refine pe_weak (pe_listRg hc hgt hmt (prg_1 hgr hmr ha n1) n2) fun σ H Q q => ?_
  obtain ⟨Hs0, H0, Hs, ρ, n, z, n', R, e, q⟩ := q
  obtain ⟨x, h1, h2⟩ := dUn_some e
  refine ⟨Hs0, H0, Hs, ρ, n, x, n', R, h1, fun v Hs1 H1 e1 c1 r1 => ?_⟩
  unfold hLstRg at h2
  split at h2
  · rename_i j
    obtain ⟨hj, h3⟩ := Option.some_of_if h2
    cases h3
    rw [r1.int]
    refine ⟨j, rfl, ⟨by decide, by decide, by omega, by omega, by omega⟩, fun q1 hq => ?_⟩
    have R1 := R.step e1 c1
    have hs : Hs1 q1 = none := by
      cases e : Hs1 q1 with
      | none => rfl
      | some u => rw [R1.sub q1 u e] at hq; cases hq
    have hn : H q1 = none ∧ ∀ w, c = some w → q1 ≠ w.1 := by
      have hne : ∀ w, c = some w → q1 ≠ w.1 := fun w hw z => by rw [z, c1 w hw] at hq; cases hq
      refine ⟨?_, hne⟩
      cases e : H q1 with
      | none => rfl
      | some u => rw [e1.al q1 u hne e] at hq; cases hq
    refine q q1 (rgV 0 j) Hs1 _ ⟨e1.st, fun b o hb h => ?_, fun b o h => ?_, e1.new⟩ (fun w hw => ?_) hn.1 hs upd_same (rgV_rp j)
    · have := e1.al b o hb h
      rw [upd_ne (ne_of_none this hq)]
      exact this
    · have := R1.sub b o h
      rw [upd_ne (ne_of_none this hq)]
      exact this
    · rw [upd_ne (Ne.symm (hn.2 w hw))]
      exact c1 w hw
  · cases h2
end
end DL
namespace DL
open PySem PySem.Spec PyProof.Rows L2
/-- a def that is not read: nothing is said of what it gives -/
def mDead : List Int → List D → M D := fun _ _ _ => none
theorem calD_dead {P : Program} {w : World} {K : PySem.W.Frag} {mg : Str → Option Value} {base : Heap} {k ar : Nat} {x qual : Str} {st : Stmt} {f : Addr} {fd : FuncData} {ps : List Str} (F : Fun K x qual st f fd) (g : mg x = some (.ref f)) (b : Binds K fd ps []) (hn : ar = ps.length) : CalD P w K mg base k x ar mDead :=
  ⟨f, fd, ps, fun ns => ⟨fun vs H Q E h => h.1.trans hn, fun A outer s H args us vs Q E hr he hb hv h => by
    obtain ⟨_, _, _, _, _, _, _, _, _, _, _, h, _⟩ := h
    cases h⟩, g, F.kp, b⟩
end DL
namespace DL
open PySem PySem.Spec PyProof.Rows L2
/-- a comparison whose left side may raise -/
def dBinX (h : D → D → Option D) (f : DEnv → M (D ⊕ Str)) (g : DEnv → M D) : DEnv → M (D ⊕ Str) := fun ρ n => match f ρ n with
  | some (.inl x, n1) => match g ρ n1 with
    | some (y, n2) => match h x y with
      | some z => some (.inl z, n2)
      | none => none
    | none => none
  | some (.inr y, n1) => some (.inr y, n1)
  | none => none
section
variable {X : Cx} {fr : FR} {wx : XW} {ns : List Int} {c : Md} {W W' Wb : List Nat} {a b : Expr} {f : DEnv → M (D ⊕ Str)} {g : DEnv → M D} {pos : Pos} {rest : List Stmt}
theorem ex_cm {op : CmpOp} {h : D → D → Option D} (hc : CmpD X op h) (ha : EX X wx ns c W a f) (hb : ED X ns c W b g) (hm : behindInMarks op b = false := by exact nomark _) : EX X wx ns c W (.Compare a [op] [b] pos) (dBinX h f g) := by
  obtain ⟨r, h1, h2⟩ := hc
  refine pe_weak (pe_cmpR h1 ha hb hm) fun σ H Q q => ?_
  obtain ⟨Hs0, H0, Hs, ρ, n, z, n', R, e, q⟩ := q
  unfold dBinX at e
  split at e
  · rename_i x n1 e1
    split at e
    · rename_i y n2 e2
      split at e
      · rename_i z' e3
        cases e
        refine ⟨Hs0, H0, Hs, ρ, n, .inl x, n1, R, e1, fun v Hs1 H1 x1 c1 r1 => ?_⟩
        have R1 := R.step x1 c1
        refine ⟨Hs0, H0, Hs1, ρ, n1, y, _, R1, e2, fun w Hs2 H2 x2 c2 r2 => ?_⟩
        exact h2 ns c Hs2 H2 v w x y z' Q (R1.step x2 c2).sub (r1.same x2.st) r2 e3 fun u Hs3 H3 x3 r3 => q u Hs3 H3 ((x1.trans c1 x2).trans c2 x3.ext) (x3.cel c2) (.inl r3)
      · cases e
    · cases e
  · rename_i y n1 e1
    cases e
    exact ⟨Hs0, H0, Hs, ρ, n, .inr y, _, R, e1, q⟩
  · cases e
theorem ssd_never : SSD X fr ns c Wb W W' rest sNever := ⟨fun pins s σ H D I h => by
  obtain ⟨Hs0, H0, Hs, ρ, n, o, n', R, e, q⟩ := h
  cases e⟩
end
end DL
/-! DNh: parts of texts. -/
namespace DL
open PySem PySem.Spec PyProof.Rows L2
def hIxS : D → D → Option D
  | .str z, .int i => match atI z.cps.toList i with
    | some c => if z.length ≤ LIM then some (.str ⟨#[c]⟩) else none
    | none => none
  | x, y => hIx x y
def hLenS : List D → Option D
  | [.str z] => if z.length ≤ LIM then some (.int z.length) else none
  | ds => hLen ds
def hMulS : D → D → Option D
  | .str z, .int n => if 2 ≤ n ∧ n < 16777216 ∧ 1 ≤ z.length ∧ z.length * n.toNat ≤ LIM then some (.str ⟨(List.replicate n.toNat z.cps).foldl (· ++ ·) #[]⟩) else none
  | _, _ => none
def hAddM : D → D → Option D
  | .str i, .str j => if i.length + j.length ≤ LIM then some (.str (i ++ j)) else none
  | x, y => hAdd x y
def cutOk (z : Str) (lo hi : Option Int) : Prop := 0 ≤ lo.getD 0 ∧ lo.getD 0 ≤ hi.getD z.length ∧ hi.getD z.length ≤ z.length ∧ z.length ≤ LIM
instance (z : Str) (lo hi : Option Int) : Decidable (cutOk z lo hi) := by unfold cutOk; infer_instance
def cutS (z : Str) (lo hi : Option Int) : Str := ⟨((z.cps.toList.drop (lo.getD 0).toNat).take (hi.getD z.length - lo.getD 0).toNat).toArray⟩
def hSlS (lo hi : Option Int) : D → Option D
  | .str z => if cutOk z lo hi then some (.str (cutS z lo hi)) else none
  | _ => none
def dSlS (f : DEnv → M D) (lo hi : Option (DEnv → M D)) : DEnv → M D := fun ρ n =>
  match f ρ n with
  | some (x, n1) => match dPart lo ρ n1 with
    | some (l, n2) => match dPart hi ρ n2 with
      | some (h, n3) => match hSlS l h x with
        | some z => some (z, n3)
        | none => none
      | none => none
    | none => none
  | none => none
def rSlS : V → Option Int → Option Int → Hp → VK → Prop := fun x lo hi H Q => ∃ z, x = .str z ∧ cutOk z lo hi ∧ Q (.str (cutS z lo hi)) H
section
variable {X : Cx} {K : PySem.W.Frag}
theorem r2_ixS : R2D K (rIx K) hIxS := by
  intro ns c Hs H x y d e z Q s rx ry hz q
  unfold hIxS at hz
  split at hz
  · rename_i zz i
    split at hz
    · rename_i cc hc
      obtain ⟨p, e⟩ := Option.some_of_if hz
      cases e
      exact .inr (.inr ⟨zz, i, cc, rx.str, ry.int, by rw [LIM_eq]; exact p, hc, q _ Hs H (ExtP.refl s) (.str _)⟩)
    · cases hz
  · exact r2_ix ns c Hs H x y d e z Q s rx ry hz q
theorem cb_lenS : CB K (fun xs H Q => (∃ p ys, xs = [.ref p] ∧ (SqL K H p ys ∨ SqT K H p ys) ∧ Q (.int ys.length) H) ∨ (∃ z, xs = [.str z] ∧ z.length ≤ sizeLine ∧ Q (.int z.length) H)) hLenS := by
  intro ns c Hs H vs ds z Q s r h q
  unfold hLenS at h
  split at h
  · obtain ⟨p, e⟩ := Option.some_of_if h
    cases e
    obtain ⟨v, rfl, rv⟩ := pr1 r
    exact .inr ⟨_, by rw [rv.str], by rw [LIM_eq]; exact p, q _ Hs H (ExtP.refl s) (.int _)⟩
  · exact .inl (cb_len ns c Hs H vs ds z Q s r h q)
theorem call_len_seqS : CallR X (.builtin "len") (fun xs H Q => (∃ p ys, xs = [.ref p] ∧ (SqL X.K H p ys ∨ SqT X.K H p ys) ∧ Q (.int ys.length) H) ∨ (∃ z, xs = [.str z] ∧ z.length ≤ sizeLine ∧ Q (.int z.length) H)) := CallR.or call_len_seq call_len_str
theorem r2_addM : R2D K (fun x y H Q => (∃ i j, x = .str i ∧ y = .str j ∧ i.length + j.length ≤ sizeLine ∧ Q (.str (i ++ j)) H) ∨ rAddD K x y H Q) hAddM := by
  intro ns c Hs H x y d e z Q s rx ry hz q
  unfold hAddM at hz
  split at hz
  · rename_i i j
    obtain ⟨p, e⟩ := Option.some_of_if hz
    cases e
    exact .inl ⟨i, j, rx.str, ry.str, by rw [LIM_eq]; exact p, q _ Hs H (ExtP.refl s) (.str _)⟩
  · exact .inr (r2_add ns c Hs H x y d e z Q s rx ry hz q)
def rMulS : R2 := fun x y H Q => ∃ (z : Str) (n : Int), x = .str z ∧ y = .int n ∧ 2 ≤ n ∧ n < 16777216 ∧ 1 ≤ z.length ∧ z.length * n.toNat ≤ LIM ∧ Q (.str ⟨(List.replicate n.toNat z.cps).foldl (· ++ ·) #[]⟩) H
theorem foldl_len (xs : Array Nat) (k : Nat) : ∀ acc : Array Nat, ((List.replicate k xs).foldl (· ++ ·) acc).size = acc.size + k * xs.size := by
  induction k with
  | zero => intro acc; simp
  | succ k ih =>
    intro acc
    rw [List.replicate_succ, List.foldl_cons, ih, Array.size_append, Nat.succ_mul]
    omega
theorem op_mulS : OpR X (binaryOp .Mult) rMulS := by
  intro pins s σ H x y v u Q I rx ry h
  obtain ⟨z, n, rfl, rfl, h2, h3, h1, hl, q⟩ := h
  obtain ⟨t, rfl⟩ := rx
  obtain ⟨t', rfl⟩ := ry
  have hsz : sizeLine = 16777216 := sizeLine_eq
  have hL : LIM = 16777216 := rfl
  have hn1 : ¬ n < 1 := by omega
  have hn2 : (n == 1 || z.length == 0) = false := by
    have e1 : (n == 1) = false := beq_eq_false_iff_ne.mpr (by omega)
    have e2 : (z.length == 0) = false := beq_eq_false_iff_ne.mpr (by omega)
    rw [e1, e2]; rfl
  refine PySem.P.mul_str ?_ (fun _ _ => ?_) (fun _ _ => ?_) ?_
  · have e1 : decide (n < -(2 ^ 63 : Int)) = false := decide_eq_false (by omega)
    have e2 : decide (n ≥ 2 ^ 63) = false := decide_eq_false (by omega)
    rw [e1, e2]; rfl
  · have hz : (z.length : Int) * n ≤ 16777216 := by
      have : ((z.length * n.toNat : Nat) : Int) ≤ ((16777216 : Nat) : Int) := Int.ofNat_le.mpr (hL ▸ hl)
      rw [Int.natCast_mul, Int.toNat_of_nonneg (by omega)] at this
      exact this
    have : (z.length : Int) ≤ (2 ^ 63 - 1) / n := by
      rw [Int.le_ediv_iff_mul_le (by omega)]
      omega
    omega
  · exact decide_eq_false (by omega)
  · rw [if_neg hn1, hn2]
    refine ⟨?_, ?_⟩
    · show (Array.size _) ≤ _
      rw [foldl_len]
      have : z.cps.size = z.length := rfl
      rw [this, Nat.mul_comm]
      simp
      omega
    · exact ⟨.str _, H, I.tok _, ⟨_, rfl⟩, q⟩
theorem r2_mulS : R2D K rMulS hMulS := by
  intro ns c Hs H x y d e z Q s rx ry hz q
  unfold hMulS at hz
  split at hz
  · rename_i zz n
    obtain ⟨p, e⟩ := Option.some_of_if hz
    cases e
    exact ⟨zz, n, rx.str, ry.int, p.1, p.2.1, p.2.2.1, p.2.2.2, q _ Hs H (ExtP.refl s) (.str _)⟩
  · cases hz
theorem cut_txt {z : Str} {lo hi : Option Int} (h : cutOk z lo hi) : PySem.StrLaws.sliceText z lo hi = cutS z lo hi := by
  obtain ⟨h0, h1, h2, -⟩ := h
  have hl : z.cps.toList.length = z.length := by simp [Str.length]
  have key : PySem.StrLaws.sliceText z (some (lo.getD 0)) (some (hi.getD z.length)) = cutS z lo hi := PySem.StrLaws.sliceText_plain ⟨h0, h1, by rw [hl]; exact h2⟩
  cases lo with
  | none =>
    cases hi with
    | none =>
      have e1 : PySem.StrLaws.sliceText z none none = PySem.StrLaws.sliceText z (some 0) (some (z.length : Int)) := by unfold PySem.StrLaws.sliceText; rw [PySem.StrLaws.sliceIdx_none_lo, PySem.StrLaws.sliceIdx_none_hi]
      rw [e1]; exact key
    | some j =>
      have e1 : PySem.StrLaws.sliceText z none (some j) = PySem.StrLaws.sliceText z (some 0) (some j) := by unfold PySem.StrLaws.sliceText; rw [PySem.StrLaws.sliceIdx_none_lo]
      rw [e1]; exact key
  | some i =>
    cases hi with
    | none =>
      have e1 : PySem.StrLaws.sliceText z (some i) none = PySem.StrLaws.sliceText z (some i) (some (z.length : Int)) := by unfold PySem.StrLaws.sliceText; rw [PySem.StrLaws.sliceIdx_none_hi]
      rw [e1]; exact key
    | some j => exact key
theorem cutS_le (z : Str) (lo hi : Option Int) : (cutS z lo hi).length ≤ z.length := by
  show (((z.cps.toList.drop (lo.getD 0).toNat).take (hi.getD z.length - lo.getD 0).toNat).toArray).size ≤ z.cps.size
  rw [List.size_toArray, List.length_take, List.length_drop, Array.length_toList]
  omega
theorem sl_str : SlR X rSlS := by
  intro pins s σ H x v vl vu lo hi sl Q I rx hs pl pu h
  obtain ⟨z, rfl, hk, q⟩ := h
  obtain ⟨t, rfl⟩ := rx
  have hz : (cutS z lo hi).length ≤ sizeLine := Nat.le_trans (cutS_le z lo hi) (by rw [sizeLine_eq]; exact hk.2.2.2)
  have he := cut_txt hk
  refine ⟨"str", _, PySem.F.slot_str_getitem.lookup, typeIs_str s z t, ?_⟩
  have fin : ∀ (l u : Option (Int × Tok)), l.map (·.1) = lo → u.map (·.1) = hi → s.heap.IsSlice sl l u none → wpAny (model X.prog X.w) X.A (getItem (.str z t) (.ref sl)) (EP X pins σ Q) X.xe s := by
    intro l u hl hu hI
    subst hl
    subst hu
    refine wpAny_getItem_str_slice (l := l) (u := u) (st := none) hI rfl ?_
    refine post_val_or_str ?_
    have e2 : (if ((1 : Int) == 1 && (slicePicked z l u none).length == z.length) = true then z else ⟨((slicePicked z l u none).filterMap (z.cps[·]?)).toArray⟩) = cutS z (l.map (·.1)) (u.map (·.1)) := he
    show (if ((1 : Int) == 1 && (slicePicked z l u none).length == z.length) = true then z else ⟨((slicePicked z l u none).filterMap (z.cps[·]?)).toArray⟩).length ≤ sizeLine ∧ _
    refine ⟨by rw [e2]; exact hz, fun t' k => ?_⟩
    show EP X pins σ Q (.str (if ((1 : Int) == 1 && (slicePicked z l u none).length == z.length) = true then z else ⟨((slicePicked z l u none).filterMap (z.cps[·]?)).toArray⟩) t') _
    rw [e2]
    exact ⟨.str _, H, I.tok _, ⟨_, rfl⟩, q⟩
  cases pl with
  | none => cases pu with
    | none => exact fin none none rfl rfl hs
    | int j tj => exact fin none (some (j, tj)) rfl rfl hs
  | int i ti => cases pu with
    | none => exact fin (some (i, ti)) none rfl rfl hs
    | int j tj => exact fin (some (i, ti)) (some (j, tj)) rfl rfl hs
end
section
variable {X : Cx} {ns : List Int} {c : Md} {W : List Nat} {a b : Expr} {f g : DEnv → M D} {pos p2 : Pos}
theorem ed_itemS (ha : ED X ns c W a f) (hb : ED X ns c W b g) (hs : PlainIx b := by exact fun _ _ => rfl) : ED X ns c W (.Subscript a b pos) (dBin hIxS f g) := ed_ix ix_seq r2_ixS ha hb hs
theorem ed_addM (ha : ED X ns c W a f) (hb : ED X ns c W b g) : ED X ns c W (.BinOp a .Add b pos) (dBin hAddM f g) := ed_op (OpR.or op_add_str op_addD) r2_addM ha hb
theorem ed_mulS (ha : ED X ns c W a f) (hb : ED X ns c W b g) : ED X ns c W (.BinOp a .Mult b pos) (dBin hMulS f g) := ed_op op_mulS r2_mulS ha hb
theorem ed_sliceS {lo hi : Option Expr} {fl fh : Option (DEnv → M D)} (ha : ED X ns c W a f) (hl : OD X ns c W lo fl) (hh : OD X ns c W hi fh) : ED X ns c W (.Subscript a (.Slice lo hi none p2) pos) (dSlS f fl fh) := by
  refine pe_weak (pe_slice sl_str ha hl hh) fun σ H Q q => ?_
  obtain ⟨Hs0, H0, Hs, ρ, n, z, n', R, e, q⟩ := q
  unfold dSlS at e
  split at e
  · rename_i x n1 h1
    split at e
    · rename_i l n2 h2
      split at e
      · rename_i h n3 h3
        split at e
        · rename_i z' h4
          cases e
          refine ⟨Hs0, H0, Hs, ρ, n, x, n1, R, h1, fun v Hs1 H1 e1 c1 r1 => ?_⟩
          have R1 := R.step e1 c1
          refine ⟨Hs0, H0, Hs1, ρ, n1, l, n2, R1, h2, fun Hs2 H2 e2 c2 => ?_⟩
          have R2 := R1.step e2 c2
          refine ⟨Hs0, H0, Hs2, ρ, n2, h, _, R2, h3, fun Hs3 H3 e3 c3 => ?_⟩
          unfold hSlS at h4
          split at h4
          · rename_i zz
            obtain ⟨p, e4⟩ := Option.some_of_if h4
            cases e4
            exact ⟨zz, r1.str, p, q _ Hs3 H3 ((e1.trans c1 e2).trans c2 e3) c3 (.inl (.str _))⟩
          · cases h4
        · cases e
      · cases e
    · cases e
  · cases e
end
end DL
/-! DNf: itertools.combinations(range(n), k), walked. -/
namespace DL
open PySem PySem.Spec PyProof.Rows L2
section
theorem mro_cb : mroOf (.type "itertools.combinations") = pure [.type "itertools.combinations", .type "object"] := by rw [mroOf_type]; kernel_rfl
theorem lookup_cb_new : typeLookup (.type "itertools.combinations") "__new__" = pure (some (.builtin "itertools.combinations.__new__")) := by rw [typeLookup_type, builtinLookup_eq_fast]; kernel_rfl
theorem slot_cb_init : Slot "itertools.combinations" "__init__" "object.__init__" :=
  .of (owner := "object") (n := "__init__") (by rw [typeLookup_type, builtinLookup_eq_fast]; kernel_rfl) (by decide +kernel) (by decide +kernel) (by decide +kernel)
    (by first | exact .inl (by decide +kernel) | exact .inr (by decide +kernel)) (by rw [isSubtype_type]; kernel_rfl)
theorem sub_cb : isSubtype (.type "itertools.combinations") (.type "itertools.combinations") = pure true := by rw [isSubtype_type]; kernel_rfl
theorem called_cb : TypeCalled "itertools.combinations" "itertools.combinations.__new__" "object.__init__" :=
  ⟨by decide +kernel, by decide +kernel, ⟨_, _, mro_cb⟩, madeBy_type mro_cb lookup_cb_new (by decide +kernel), by decide +kernel, sub_cb, slot_cb_init⟩
theorem typeCall_cb (a b : Value) : checkTypeCall "itertools.combinations" ⟨[a, b], []⟩ = pure () := by kernel_rfl
theorem newCall_cb (a b : Value) : checkBuiltinCall "itertools.combinations.__new__" ⟨[.type "itertools.combinations", a, b], []⟩ = pure () := by kernel_rfl
theorem entry_cb_new : entryFor table "itertools.combinations.__new__" = some Builtin.«itertools.combinations.__new__» := entryFor_of_tree (by kernel_rfl)
theorem slot_cb_iter : Slot "itertools.combinations" "__iter__" "itertools.combinations.__iter__" :=
  .of (owner := "itertools.combinations") (n := "__iter__") (by rw [typeLookup_type, builtinLookup_eq_fast]; kernel_rfl) (by decide +kernel) (by decide +kernel) (by decide +kernel)
    (by first | exact .inl (by decide +kernel) | exact .inr (by decide +kernel)) sub_cb
theorem slot_cb_next : Slot "itertools.combinations" "__next__" "itertools.combinations.__next__" :=
  .of (owner := "itertools.combinations") (n := "__next__") (by rw [typeLookup_type, builtinLookup_eq_fast]; kernel_rfl) (by decide +kernel) (by decide +kernel) (by decide +kernel)
    (by first | exact .inl (by decide +kernel) | exact .inr (by decide +kernel)) sub_cb
theorem entry_cb_next : entryFor table "itertools.combinations.__next__" = some Builtin.«itertools.combinations.__next__» := entryFor_of_tree (by kernel_rfl)
theorem noDict_cb : typeHasDict (.type "itertools.combinations") = false := by decide +kernel
theorem entry_cb_iter : entryFor table "itertools.combinations.__iter__" = some Builtin.«dict_keyiterator.__iter__» :=
  entryFor_alias (id' := "dict_keyiterator.__iter__") (by kernel_rfl) (by first | rfl | decide +kernel | (unfold String.splitOn; simp +decide [String.splitOnAux])) (by decide +kernel) (by kernel_rfl)
theorem owner_cb : Manifest.owners.lookup (String.ofList ['s', 'n', 'o', 'i', 't', 'a', 'n', 'i', 'b', 'm', 'o', 'c', '.', 's', 'l', 'o', 'o', 't', 'r', 'e', 't', 'i'].reverse) = some Manifest.sig_itertools_combinations := by kernel_rfl
theorem args_cb_iter (a : Value) : argsOk "itertools.combinations.__iter__" ⟨[a], []⟩ := by
  unfold argsOk; rw [signature?_of (id := "itertools.combinations.__iter__") (n := ['_', '_', 'r', 'e', 't', 'i', '_', '_']) (o := ['s', 'n', 'o', 'i', 't', 'a', 'n', 'i', 'b', 'm', 'o', 'c', '.', 's', 'l', 'o', 'o', 't', 'r', 'e', 't', 'i']) (by kernel_rfl) owner_cb]; kernel_rfl
theorem args_cb_next (a : Value) : argsOk "itertools.combinations.__next__" ⟨[a], []⟩ := by
  unfold argsOk; rw [signature?_of (id := "itertools.combinations.__next__") (n := ['_', '_', 't', 'x', 'e', 'n', '_', '_']) (o := ['s', 'n', 'o', 'i', 't', 'a', 'n', 'i', 'b', 'm', 'o', 'c', '.', 's', 'l', 'o', 'o', 't', 'r', 'e', 't', 'i']) (by kernel_rfl) owner_cb]; kernel_rfl
end
end DL
/-! DNg: itertools.combinations(range(n), k), made. -/
namespace DL
open PySem PySem.Spec PyProof.Rows L2
section
variable {prog : Program} {w : World} {A : Around} {E : Value → Shared → Prop} {s : Shared} {r : Addr} {a b : Int} {t u v q : Tok} {n : Nat} {k : Nat}
/-- a walk over combinations: its pool, its state (0: at the start, 1: on its way, 2: over), its numbers -/
def CbO (p : Addr) (st : Int) (last : Value) (idx : List Nat) : Obj := { cls := .type "itertools.combinations", dict := none, data := .fields ([.ref p, .int st 0, last] ++ idx.map fun (i : Nat) => (.int i 0 : Value)).toArray, slots := #[] }
theorem bind2 (x y : Value) : Builtin.Itertools.itBindNamed "combinations" ["iterable", "r"] 2 2 [x, y] [] = pure [some x, some y] := by rfl
theorem ssize_k {k : Nat} (hk : k ≤ 1000) (q : Tok) : Builtin.Itertools.itSsizeArg (.int (k : Nat) q) = pure ((k : Nat) : Int) := by
  show (if _ then _ else _) = _
  have e1 : (decide (((k : Nat) : Int) < -(2 ^ 63 : Int)) || decide (((k : Nat) : Int) ≥ 2 ^ 63)) = false := by
    rw [decide_eq_false (by omega), decide_eq_false (by omega)]; rfl
  rw [e1]
  rfl
set_option maxHeartbeats 2000000 in
theorem code_cb_new {Q₁ : Value → Shared → Prop} (hh : A.handled = none) (hr : IsRange s.heap r a b 1 t u v) (hsmall : Builtin.Range.small a b 1 = true) (hn : Builtin.Range.rangeSize a b 1 = n) (hlen : n ≤ 1000) (hk : k ≤ 1000)
    (h : ∀ (h' : Heap) (tk : Nat) (acc : Array Value), (∀ b o, s.heap.get? b = some o → h'.get? b = some o) → ItemsOf (fun i v => ∃ t, v = .int (a + i * 1) t) acc n →
      Q₁ (.ref (h'.objs.size + 1)) { s with heap := (h'.push { cls := .type "tuple", data := .seq acc }).push (CbO h'.objs.size (if k > n then 2 else 0) .none (List.range k)), toks := tk }) :
    codeAny (model prog w) A (.call (.builtin "itertools.combinations.__new__") ⟨[.type "itertools.combinations", .ref r, .int (k : Nat) q], []⟩) (wants Q₁ E) s := by
  refine codeAny_of_tree ?_
  show wpAny _ A.in1 (do checkBuiltinCall "itertools.combinations.__new__" ⟨[.type "itertools.combinations", .ref r, .int (k : Nat) q], []⟩; again (.builtin "itertools.combinations.__new__" ⟨[.type "itertools.combinations", .ref r, .int (k : Nat) q], []⟩)) _ _ s
  refine wpAny_bind (wpAny_of_eq (newCall_cb _ _) (wpAny_pure ⟨plainId_quiet (by decide +kernel) _, codeAny_builtin entry_cb_new ?_⟩))
  rw [Around.under_plainId (by decide +kernel) _]
  have hsub := sub_cb
  have hd := noDict_cb
  have hTI : s.TypeIs (.ref r) "range" := ⟨_, hr, rfl⟩
  have hh1 : A.in1.handled = none := hh
  unfold Builtin.«itertools.combinations.__new__»
  repeat (first
      | wp_step
      | simp only [List.head?_cons, Option.some_or, List.getElem?_cons_succ, List.getElem?_cons_zero, List.length_cons, List.length_nil, List.forIn_nil])
  refine wpAny_of_eq hsub (wpAny_pure ?_)
  refine wpAny_bind (wpAny_of_eq (bind2 _ _) ?_)
  refine wpAny_bind (wpAny_of_eq (ssize_k hk q) ?_)
  refine wpAny_bind (collect_range (A := A.in1) hh1 hr hsmall hn (Nat.le_trans hlen (by decide)) fun h' tk acc hkp hi => ?_)
  have hneg : ¬ ((k : Nat) : Int) < 0 := by omega
  have hmany : ¬ Builtin.Itertools.itTooMany ((k : Nat) : Int) = true := by
    unfold Builtin.Itertools.itTooMany
    rw [decide_eq_true_eq]
    omega
  rw [if_neg hneg, if_neg hmany]
  refine wpAny_bind (wpAny_newObj_type ?_ (by show acc.toList.toArray.size ≤ sizeLine; simp only [Array.toArray_toList]; rw [hi.1, sizeLine_eq]; omega))
  refine wpAny_pure ?_
  have e : acc.toList.toArray = acc := by simp
  have e2 : acc.toList.length = n := by rw [Array.length_toList]; exact hi.1
  have e3 : ((k : Nat) : Int).toNat = k := Int.toNat_natCast k
  show wpAny _ _ (do let x ← Builtin.Itertools.itNewRecord (Value.type "itertools.combinations") ([Value.ref h'.objs.size, rawInt (if ((k : Nat) : Int).toNat > acc.toList.length then 2 else 0), Value.none] ++ List.map (fun i => rawInt ((i : Nat) : Int)) (List.range ((k : Nat) : Int).toNat)); ret x) _ _ _
  rw [e, e2, e3]
  unfold Builtin.Itertools.itNewRecord
  rw [hd, if_pos (show (!false) = true from rfl)]
  refine wpAny_bind (wpAny_newObj_type ?_ ?_)
  rotate_left
  · show (List.toArray ([Value.ref h'.objs.size, rawInt (if k > n then 2 else 0), Value.none] ++ List.map (fun i => rawInt ((i : Nat) : Int)) (List.range k))).size ≤ sizeLine + 2
    rw [List.size_toArray, List.length_append, List.length_map, List.length_range, sizeLine_eq]
    show 3 + k ≤ _
    omega
  refine wpAny_pure ?_
  have hh' := h h' tk acc hkp hi
  have e5 : (h'.push { cls := Value.type "tuple", data := Data.seq acc }).objs.size = h'.objs.size + 1 := Heap.size_push ..
  show Q₁ (.ref (h'.push { cls := Value.type "tuple", data := Data.seq acc }).objs.size) _
  rw [e5]
  exact hh'
theorem call_cb {Q : Value → Shared → Prop} (hh : A.handled = none) (hr : IsRange s.heap r a b 1 t u v) (hsmall : Builtin.Range.small a b 1 = true) (hn : Builtin.Range.rangeSize a b 1 = n) (hlen : n ≤ 1000) (hk : k ≤ 1000)
    (hQ : ∀ (h' : Heap) (tk : Nat) (acc : Array Value), (∀ b o, s.heap.get? b = some o → h'.get? b = some o) → ItemsOf (fun i v => ∃ t, v = .int (a + i * 1) t) acc n →
      Q (.ref (h'.objs.size + 1)) { s with heap := (h'.push { cls := .type "tuple", data := .seq acc }).push (CbO h'.objs.size (if k > n then 2 else 0) .none (List.range k)), toks := tk }) :
    wpAny (model prog w) A (call (.type "itertools.combinations") [.ref r, .int (k : Nat) q]) Q E s := by
  refine callType_codes (Q₁ := fun obj s₁ => s₁.TypeIs obj "itertools.combinations" ∧ Q obj s₁) called_cb (typeCall_cb _ _) F.entry_object_init
    (code_cb_new (A := A.in1) hh hr hsmall hn hlen hk fun h' tk acc hkp hacc => ⟨⟨CbO h'.objs.size (if k > n then 2 else 0) .none (List.range k), ?_, rfl⟩, hQ h' tk acc hkp hacc⟩) fun obj s₁ h₁ => ?_
  · have e5 : (h'.push { cls := Value.type "tuple", data := Data.seq acc }).objs.size = h'.objs.size + 1 := Heap.size_push ..
    rw [← e5]
    exact Heap.get?_push_size _ rfl
  · exact ⟨h₁.1, by first | exact F.args_object_init_3 _ _ _ | exact args_object_init_3 _ _ _ | exact PySem.args_object_init_3 _ _ _, object_init_meets called_cb.init.lookup called_cb.made (by decide) prog w A.in1 _ s₁ ⟨h₁.1, rfl, h₁.2⟩⟩
end
end DL
/-! DNi: itertools.combinations, its next item. -/
namespace DL
open PySem PySem.Spec PyProof.Rows L2
/-- k of l, in order -/
def subs : List Nat → Nat → List (List Nat)
  | _, 0 => [[]]
  | [], _ + 1 => []
  | x :: l, k + 1 => (subs l k).map (x :: ·) ++ subs l (k + 1)
def cbs (n k : Nat) : List (List Nat) := subs (List.range n) k
def tabOk (f : Nat → List Nat → Option (List Nat)) : Bool := (List.range 7).all fun n => (List.range 7).all fun k => (List.range (cbs n k).length).all fun i => decide (f n ((cbs n k).getD i []) = (cbs n k)[i + 1]?)
theorem use_tab {f : Nat → List Nat → Option (List Nat)} {n k i : Nat} {r : Option (List Nat)} (h : f n ((cbs n k).getD i []) = r) (hn : n ≤ 6) (hk : k ≤ 6) (hi : i < (cbs n k).length) (ht : tabOk f = true) : r = (cbs n k)[i + 1]? := by
  unfold tabOk at ht
  have h1 := List.all_eq_true.mp ht n (List.mem_range.mpr (by omega))
  have h2 := List.all_eq_true.mp h1 k (List.mem_range.mpr (by omega))
  have h3 := List.all_eq_true.mp h2 i (List.mem_range.mpr hi)
  rw [← h]
  exact of_decide_eq_true h3
section
variable {prog : Program} {w : World} {A : Around} {E : Value → Shared → Prop} {s : Shared} {C p : Addr} {last : Value} {n k i : Nat} {items : Array Value}
def cbF (p : Addr) (st : Int) (last : Value) (idx : List Nat) : List Value := [.ref p, .int st 0, last] ++ idx.map fun (i : Nat) => (.int i 0 : Value)
theorem cbo_eq (p : Addr) (st : Int) (last : Value) (idx : List Nat) : CbO p st last idx = { cls := .type "itertools.combinations", dict := none, data := .fields (cbF p st last idx).toArray, slots := #[] } := rfl
theorem cbF_size (p : Addr) (st : Int) (last : Value) (idx : List Nat) : (cbF p st last idx).toArray.size = 3 + idx.length := by
  rw [List.size_toArray]
  unfold cbF
  rw [List.length_append, List.length_map]
  rfl
theorem set1 (p : Addr) (st : Int) (last : Value) (idx : List Nat) (j : Int) : (cbF p st last idx).toArray.setIfInBounds 1 (.int j 0) = (cbF p j last idx).toArray := by
  rw [List.setIfInBounds_toArray]
  rfl
theorem set2 (p : Addr) (st : Int) (last x : Value) (idx : List Nat) : (cbF p st last idx).toArray.setIfInBounds 2 x = (cbF p st x idx).toArray := by
  rw [List.setIfInBounds_toArray]
  rfl
theorem nums_from {idx : List Nat} {st : Int} {Q : List Nat → Shared → Prop} (ho : s.heap.get? C = some (CbO p st last idx)) (h : Q idx s) : wpAny (model prog w) A (Builtin.Itertools.itNumbersFrom (.ref C) 3) Q E s := by
  unfold Builtin.Itertools.itNumbersFrom
  refine wpAny_bind (wpAny_load ho ?_)
  refine wpAny_pure ?_
  have e : (((cbF p st last idx).toArray.toList.drop 3).map fun | .int n _ => n.toNat | _ => 0) = idx := by
    show ((idx.map fun (i : Nat) => (.int i 0 : Value)).map fun | .int n _ => n.toNat | _ => 0) = idx
    rw [List.map_map]
    conv => rhs; rw [← List.map_id idx]
    exact List.map_congr_left fun i _ => by simp
  show Q (((cbF p st last idx).toArray.toList.drop 3).map fun | .int n _ => n.toNat | _ => 0) s
  rw [e]
  exact h
theorem pool_of {Q : Array Value → Shared → Prop} (hp : s.heap.get? p = some { cls := .type "tuple", data := .seq items }) (h : Q items s) : wpAny (model prog w) A (Builtin.Itertools.itPoolItems (.ref p)) Q E s := by
  unfold Builtin.Itertools.itPoolItems seqItems?
  refine wpAny_bind ?_
  refine wpAny_bind (wpAny_load hp ?_)
  exact wpAny_pure (wpAny_pure h)
theorem set1o {h : Heap} {st j : Int} {idx : List Nat} (e : h.get? C = some { cls := .type "itertools.combinations", dict := none, data := .fields ((cbF p st last idx).toArray.setIfInBounds 1 (.int j 0)), slots := #[] }) : h.get? C = some (CbO p j last idx) := by
  rw [set1] at e
  exact e
theorem set2o {h : Heap} {st : Int} {x : Value} {idx : List Nat} (e : h.get? C = some { cls := .type "itertools.combinations", dict := none, data := .fields ((cbF p st last idx).toArray.setIfInBounds 2 x), slots := #[] }) : h.get? C = some (CbO p st x idx) := by
  rw [set2] at e
  exact e
theorem in_cbF (p : Addr) (st : Int) (last : Value) (idx : List Nat) (i : Nat) (hi : i < 3) : i < ([.ref p, .int st 0, last] ++ idx.map fun (i : Nat) => (.int i 0 : Value)).toArray.size := by
  show i < (cbF p st last idx).toArray.size
  rw [cbF_size]
  omega
def pickV (items : Array Value) (idx : List Nat) : List Value := idx.map fun i => items.getD i .none
theorem next_cb_first {Q : Option Value → Shared → Prop} (ho : s.heap.get? C = some (CbO p 0 last (List.range k))) (hp : s.heap.get? p = some { cls := .type "tuple", data := .seq items }) (hne : C ≠ p) (hk : k ≤ 6)
    (hQ : ∀ h', (∀ b o, b ≠ C → s.heap.get? b = some o → h'.get? b = some o) → h'.get? s.heap.objs.size = some { cls := .type "tuple", data := .seq (pickV items (List.range k)).toArray } → h'.get? C = some (CbO p 1 (.ref s.heap.objs.size) (List.range k)) → Q (some (.ref s.heap.objs.size)) { s with heap := h' }) : wpAny (model prog w) A (pyNext (.ref C)) Q E s := by
  have hT : s.TypeIs (.ref C) "itertools.combinations" := ⟨_, ho, rfl⟩
  unfold pyNext
  refine wpAny_bind (wpAny_attempt (wpAny_callSpecial?_slot (name := Str.ofString "__next__") hT slot_cb_next
    (wpAny_call_entry slot_cb_next hT entry_cb_next ?_ (args_cb_next _))))
  show wpAny _ _ (field (.ref C) 0 >>= _) _ _ s
  refine wpAny_bind (wpAny_field ho rfl (x := .ref p) rfl ?_)
  refine wpAny_bind (nums_from ho ?_)
  show wpAny _ _ (Builtin.Itertools.itIntField (.ref C) 1 >>= _) _ _ s
  refine wpAny_bind ?_
  unfold Builtin.Itertools.itIntField
  refine wpAny_bind (wpAny_field ho rfl (x := .int 0 0) rfl ?_)
  refine wpAny_pure ?_
  show wpAny _ _ (setField (.ref C) 1 (rawInt 1) >>= _) _ _ s
  refine wpAny_bind (wpAny_setField_rec ho (in_cbF p 0 last _ 1 (by decide)) fun h1 e1 sb1 => ?_)
  have e1' : h1.get? C = some (CbO p 1 last (List.range k)) := set1o e1
  have hp1 : h1.get? p = some { cls := .type "tuple", data := .seq items } := (sb1.2 p (Ne.symm hne)).trans hp
  refine wpAny_bind ?_
  show wpAny _ _ (Builtin.Itertools.itPoolItems (.ref p) >>= _) _ _ _
  refine wpAny_bind (pool_of hp1 ?_)
  refine wpAny_newTuple ?_ (by rw [List.length_map, List.length_range, sizeLine_eq]; omega)
  have hC : C ≠ h1.objs.size := Nat.ne_of_lt (Heap.lt_size e1')
  have e2 : (h1.push { cls := .type "tuple", data := .seq (pickV items (List.range k)).toArray }).get? C = some (CbO p 1 last (List.range k)) := Heap.get?_push_of_some _ e1'
  refine wpAny_bind (wpAny_field e2 rfl (x := last) rfl ?_)
  refine wpAny_bind (wpAny_setField_rec e2 (in_cbF p 1 last _ 2 (by decide)) fun h2 e3 sb2 => ?_)
  have e3' : h2.get? C = some (CbO p 1 (.ref h1.objs.size) (List.range k)) := set2o e3
  refine wpAny_bind (wpAny_letGo ?_)
  refine wpAny_pure ⟨_, rfl, ?_⟩
  refine wpAny_pure ?_
  have hsz : h1.objs.size = s.heap.objs.size := sb1.1
  have hnew : (h1.push { cls := .type "tuple", data := .seq (pickV items (List.range k)).toArray }).get? h1.objs.size = some { cls := .type "tuple", data := .seq (pickV items (List.range k)).toArray } := Heap.get?_push_size _ rfl
  have a1 : h2.get? h1.objs.size = some { cls := .type "tuple", data := .seq (pickV items (List.range k)).toArray } := (sb2.2 _ (Ne.symm hC)).trans hnew
  have a2 : ∀ b o, b ≠ C → s.heap.get? b = some o → h2.get? b = some o := fun b o hb q => (sb2.2 b hb).trans (Heap.get?_push_of_some _ ((sb1.2 b hb).trans q))
  show Q (some (.ref h1.objs.size)) { s with heap := h2 }
  rw [hsz] at a1 e3' ⊢
  exact hQ h2 a2 a1 e3'
theorem next_cb_more {idx nx : List Nat} {Q : Option Value → Shared → Prop} (ho : s.heap.get? C = some (CbO p 1 last idx)) (hp : s.heap.get? p = some { cls := .type "tuple", data := .seq items }) (hne : C ≠ p)
    (hn : items.size = n) (hn6 : n ≤ 6) (hk6 : k ≤ 6) (hi : i < (cbs n k).length) (hidx : idx = (cbs n k).getD i []) (hnx : (cbs n k)[i + 1]? = some nx) (hl : nx.length ≤ 6)
    (hQ : ∀ h', (∀ b o, b ≠ C → s.heap.get? b = some o → h'.get? b = some o) → h'.get? s.heap.objs.size = some { cls := .type "tuple", data := .seq (pickV items nx).toArray } → h'.get? C = some (CbO p 1 (.ref s.heap.objs.size) nx) → Q (some (.ref s.heap.objs.size)) { s with heap := h' }) : wpAny (model prog w) A (pyNext (.ref C)) Q E s := by
  have hT : s.TypeIs (.ref C) "itertools.combinations" := ⟨_, ho, rfl⟩
  unfold pyNext
  refine wpAny_bind (wpAny_attempt (wpAny_callSpecial?_slot (name := Str.ofString "__next__") hT slot_cb_next
    (wpAny_call_entry slot_cb_next hT entry_cb_next ?_ (args_cb_next _))))
  show wpAny _ _ (field (.ref C) 0 >>= _) _ _ s
  refine wpAny_bind (wpAny_field ho rfl (x := .ref p) rfl ?_)
  refine wpAny_bind (nums_from ho ?_)
  show wpAny _ _ (Builtin.Itertools.itIntField (.ref C) 1 >>= _) _ _ s
  refine wpAny_bind ?_
  unfold Builtin.Itertools.itIntField
  refine wpAny_bind (wpAny_field ho rfl (x := .int 1 0) rfl ?_)
  refine wpAny_pure ?_
  show wpAny _ _ (Builtin.Itertools.itPoolItems (.ref p) >>= _) _ _ s
  refine wpAny_bind (pool_of hp ?_)
  subst hidx
  rw [hn]
  split
  · rename_i next hs
    have e := use_tab hs hn6 hk6 hi (by decide +kernel)
    rw [hnx] at e
    cases e
    have g0 : s.heap.get? C = some { cls := .type "itertools.combinations", dict := none, data := .fields (cbF p 1 last ((cbs n k).getD i [])).toArray, slots := #[] } := ho
    have hz : ((cbF p 1 last ((cbs n k).getD i [])).toArray.extract 0 3 ++ (nx.map fun (i : Nat) => rawInt i).toArray) = (cbF p 1 last nx).toArray := by
      have : (cbF p 1 last ((cbs n k).getD i [])).toArray.extract 0 3 = #[.ref p, .int 1 0, last] := by
        rw [List.extract_toArray]
        rfl
      rw [this]
      unfold cbF
      simp [rawInt]
    refine wpAny_bind (wpAny_updateFields g0 rfl ?_ (by
      show Array.size ((cbF p 1 last ((cbs n k).getD i [])).toArray.extract 0 3 ++ (nx.map fun (i : Nat) => rawInt i).toArray) ≤ _
      rw [hz, cbF_size, sizeLine_eq]
      omega))
    have sb1 : Heap.SameBut C s.heap (s.heap.update C (Obj.mapFields fun fs => fs.extract 0 3 ++ (nx.map fun (i : Nat) => rawInt i).toArray)) := Heap.SameBut.update ..
    have e1' : (s.heap.update C (Obj.mapFields fun fs => fs.extract 0 3 ++ (nx.map fun (i : Nat) => rawInt i).toArray)).get? C = some (CbO p 1 last nx) := by
      rw [Heap.get?_update_self _ g0 rfl]
      show some ({ cls := .type "itertools.combinations", dict := none, data := .fields ((cbF p 1 last ((cbs n k).getD i [])).toArray.extract 0 3 ++ (nx.map fun (i : Nat) => rawInt i).toArray), slots := #[] } : Obj) = _
      rw [hz]
      rfl
    generalize (s.heap.update C (Obj.mapFields fun fs => fs.extract 0 3 ++ (nx.map fun (i : Nat) => rawInt i).toArray)) = h1 at sb1 e1' ⊢
    have hp1 : h1.get? p = some { cls := .type "tuple", data := .seq items } := (sb1.2 p (Ne.symm hne)).trans hp
    show wpAny _ _ (_ >>= _) _ _ _
    refine wpAny_bind ?_
    show wpAny _ _ (Builtin.Itertools.itPoolItems (.ref p) >>= _) _ _ _
    refine wpAny_bind (pool_of hp1 ?_)
    refine wpAny_newTuple ?_ (by rw [List.length_map, sizeLine_eq]; omega)
    have hC : C ≠ h1.objs.size := Nat.ne_of_lt (Heap.lt_size e1')
    have e2 : (h1.push { cls := .type "tuple", data := .seq (pickV items nx).toArray }).get? C = some (CbO p 1 last nx) := Heap.get?_push_of_some _ e1'
    refine wpAny_bind (wpAny_field e2 rfl (x := last) rfl ?_)
    refine wpAny_bind (wpAny_setField_rec e2 (in_cbF p 1 last _ 2 (by decide)) fun h2 e3 sb2 => ?_)
    have e3' : h2.get? C = some (CbO p 1 (.ref h1.objs.size) nx) := set2o e3
    refine wpAny_bind (wpAny_letGo ?_)
    refine wpAny_pure ⟨_, rfl, ?_⟩
    refine wpAny_pure ?_
    have hsz : h1.objs.size = s.heap.objs.size := sb1.1
    have hnew : (h1.push { cls := .type "tuple", data := .seq (pickV items nx).toArray }).get? h1.objs.size = some { cls := .type "tuple", data := .seq (pickV items nx).toArray } := Heap.get?_push_size _ rfl
    have a1 : h2.get? h1.objs.size = some { cls := .type "tuple", data := .seq (pickV items nx).toArray } := (sb2.2 _ (Ne.symm hC)).trans hnew
    have a2 : ∀ b o, b ≠ C → s.heap.get? b = some o → h2.get? b = some o := fun b o hb q => (sb2.2 b hb).trans (Heap.get?_push_of_some _ ((sb1.2 b hb).trans q))
    show Q (some (.ref h1.objs.size)) { s with heap := h2 }
    rw [hsz] at a1 e3' ⊢
    exact hQ h2 a2 a1 e3'
  · rename_i hs
    have e := use_tab hs hn6 hk6 hi (by decide +kernel)
    rw [hnx] at e
    cases e
theorem next_cb_end {idx : List Nat} {Q : Option Value → Shared → Prop} (hh : A.handled = none) (ho : s.heap.get? C = some (CbO p 1 last idx)) (hp : s.heap.get? p = some { cls := .type "tuple", data := .seq items }) (hne : C ≠ p)
    (hn : items.size = n) (hn6 : n ≤ 6) (hk6 : k ≤ 6) (hi : i < (cbs n k).length) (hidx : idx = (cbs n k).getD i []) (hnx : (cbs n k)[i + 1]? = none)
    (hQ : ∀ h', (∀ b o, b ≠ C → s.heap.get? b = some o → h'.get? b = some o) → Q none { s with heap := h' }) : wpAny (model prog w) A (pyNext (.ref C)) Q E s := by
  have hT : s.TypeIs (.ref C) "itertools.combinations" := ⟨_, ho, rfl⟩
  unfold pyNext
  refine wpAny_bind (wpAny_attempt (wpAny_callSpecial?_slot (name := Str.ofString "__next__") hT slot_cb_next
    (wpAny_call_entry slot_cb_next hT entry_cb_next ?_ (args_cb_next _))))
  show wpAny _ _ (field (.ref C) 0 >>= _) _ _ s
  refine wpAny_bind (wpAny_field ho rfl (x := .ref p) rfl ?_)
  refine wpAny_bind (nums_from ho ?_)
  show wpAny _ _ (Builtin.Itertools.itIntField (.ref C) 1 >>= _) _ _ s
  refine wpAny_bind ?_
  unfold Builtin.Itertools.itIntField
  refine wpAny_bind (wpAny_field ho rfl (x := .int 1 0) rfl ?_)
  refine wpAny_pure ?_
  show wpAny _ _ (Builtin.Itertools.itPoolItems (.ref p) >>= _) _ _ s
  refine wpAny_bind (pool_of hp ?_)
  subst hidx
  rw [hn]
  split
  · rename_i next hs
    have e := use_tab hs hn6 hk6 hi (by decide +kernel)
    rw [hnx] at e
    cases e
  · refine wpAny_bind (wpAny_setField_rec ho (in_cbF p 1 last _ 1 (by decide)) fun h1 e1 sb1 => ?_)
    show wpAny _ _ (newExc (.type "StopIteration") [] >>= _) _ _ _
    refine wpAny_bind ?_
    simp only [newExc, newTuple]
    refine wpAny_bind (wpAny_newObj_type ?_ (by size_fits))
    refine wpAny_bind (m := firstArgMember _ _) (wpAny_of_eq (a := Value.none) (by first | rfl | (simp only [firstArgMember]; rfl)) ?_)
    refine wpAny_newObj_type ?_ (by size_fits)
    simp only [raiseNew]
    refine wpAny_bind (wpAny_handled ?_)
    first | rw [show A.in1.handled = none from hh] | rw [hh]
    refine wpAny_bind (wpAny_pure (wpAny_throw ?_))
    refine wpAny_bind (wpAny_isInstance (T := "StopIteration") (b := true) ⟨_, Heap.get?_push_size _ rfl, rfl⟩ isSubtype_stop ?_)
    exact wpAny_pure (hQ _ fun b o hb q => Heap.get?_push_of_some _ (Heap.get?_push_of_some _ ((sb1.2 b hb).trans q)))
end
end DL
/-! DNj: for .. in combinations(range(n), k). -/
namespace DL
open PySem PySem.Spec PyProof.Rows L2
theorem cbs_facts : ∀ n, n < 7 → ∀ k, k < n + 1 → (cbs n k)[0]? = some (List.range k) ∧ (∀ c ∈ cbs n k, c.length = k ∧ ∀ j ∈ c, j < n) ∧ 0 < (cbs n k).length ∧ (cbs n k).length ≤ 20 := by decide +kernel
def PoolAt (h : Heap) (p : Addr) (n : Nat) (items : Array Value) : Prop := h.get? p = some { cls := .type "tuple", data := .seq items } ∧ items.size = n ∧ ∀ j, j < n → ∃ t, items.toList[j]? = some (.int (j : Nat) t)
def ItCb (n k : Nat) : It := ⟨fun i _ => i < (cbs n k).length, fun i H v H' => ∃ T c, v = .ref T ∧ H T = none ∧ (cbs n k)[i]? = some c ∧ H' = upd H T (.tup (c.map fun (j : Nat) => V.int j)), fun i _ => i = (cbs n k).length⟩
def CbTn (C p : Addr) (n k : Nat) : Nat → Heap → Prop
  | 0, h => ∃ last items, h.get? C = some (CbO p 0 last (List.range k)) ∧ PoolAt h p n items
  | i + 1, h => ∃ last items, h.get? C = some (CbO p 1 last ((cbs n k).getD i [])) ∧ PoolAt h p n items
theorem pick_vals {items : Array Value} {n : Nat} (hi : ∀ j, j < n → ∃ t, items.toList[j]? = some (.int (j : Nat) t)) : ∀ {c : List Nat}, (∀ j ∈ c, j < n) → Vals (c.map fun (j : Nat) => V.int j) (pickV items c)
  | [], _ => .nil
  | j :: c, h => by
    obtain ⟨t, ht⟩ := hi j (h j List.mem_cons_self)
    have e : items.getD j .none = .int (j : Nat) t := by
      rw [Array.getElem?_toList] at ht
      rw [Array.getD_eq_getD_getElem?, ht]
      rfl
    show Vals (V.int j :: c.map fun (j : Nat) => V.int j) (items.getD j .none :: pickV items c)
    rw [e]
    exact .cons ⟨t, rfl⟩ (pick_vals hi fun x hx => h x (List.mem_cons_of_mem _ hx))
theorem letGo_cb {M : Model} {A : Around} {E : Value → Shared → Prop} {s : Shared} {tg : Expr} {C p : Addr} {st : Int} {last u : Value} {idx : List Nat} {Q : Unit → Shared → Prop} (ho : s.heap.get? C = some (CbO p st last idx)) (hQ : Q () s) : wpAny M A (letOwnedTupleGo tg (.ref C) u) Q E s :=
  go_of ho rfl rfl (by decide +kernel) hQ
theorem turn_cb {P : Program} {w : World} {K : PySem.W.Frag} {tg : Expr} {C p : Addr} {n k : Nat} (hne : C ≠ p) (hn : n ≤ 6) (hk : k ≤ n) : Turn P w K tg (ItCb n k) [C, p] C (CbTn C p n k) where
  mem := List.mem_cons_self
  obj := fun i h st b hb => by
    have key : ∀ st last idx items, h.get? C = some (CbO p st last idx) → PoolAt h p n items → ∃ o, h.get? b = some o ∧ ∀ v, o.data ≠ .cell v := fun st last idx items h1 h2 => by
      rcases List.mem_cons.mp hb with rfl | hb
      · exact ⟨_, h1, fun v q => nomatch q⟩
      · cases List.mem_singleton.mp hb
        exact ⟨_, h2.1, fun v q => nomatch q⟩
    cases i with
    | zero => obtain ⟨last, items, h1, h2⟩ := st; exact key _ _ _ _ h1 h2
    | succ i => obtain ⟨last, items, h1, h2⟩ := st; exact key _ _ _ _ h1 h2
  keep := fun i h h' st k => by
    have h3 : ∀ items, PoolAt h p n items → PoolAt h' p n items := fun items q => ⟨k p (List.mem_cons_of_mem _ List.mem_cons_self) _ q.1, q.2⟩
    cases i with
    | zero => obtain ⟨last, items, h1, h2⟩ := st; exact ⟨last, items, k C List.mem_cons_self _ h1, h3 _ h2⟩
    | succ i => obtain ⟨last, items, h1, h2⟩ := st; exact ⟨last, items, k C List.mem_cons_self _ h1, h3 _ h2⟩
  item := by
    intro X hP hw hK hc i pins s σ H E I hf st hg
    subst hP hw hK
    obtain ⟨f1, f2, f3, f4⟩ := cbs_facts n (by omega) k (by omega)
    have hgi : i < (cbs n k).length := hg
    have fin : ∀ (h' : Heap) (nx : List Nat) (items : Array Value), PoolAt s.heap p n items → (cbs n k)[i]? = some nx → (∀ b o, b ≠ C → s.heap.get? b = some o → h'.get? b = some o) → h'.get? s.heap.objs.size = some { cls := .type "tuple", data := .seq (pickV items nx).toArray } → h'.get? C = some (CbO p 1 (.ref s.heap.objs.size) nx) →
        ∃ u, (some (Value.ref s.heap.objs.size) : Option Value) = some u ∧ wpAny (model X.prog X.w) X.A (letOwnedTupleGo tg (.ref C) u) (fun _ s2 => ∃ x H', Inv X pins σ H' s2 ∧ RelV x u ∧ (ItCb n k).yld i H x H' ∧ CbTn C p n k (i + 1) s2.heap ∧ ∀ b ∈ [C, p], H' b = none) E { s with heap := h' } := by
      intro h' nx items hp hnx a1 a2 a3
      have hmem : nx ∈ cbs n k := List.mem_of_getElem? hnx
      obtain ⟨l1, l2⟩ := f2 nx hmem
      have hv := pick_vals hp.2.2 l2
      have nw : ObjOk X.prog X.w (upd H s.heap.objs.size (.tup (nx.map fun (j : Nat) => V.int j))) h' s.heap.objs.size (.tup (nx.map fun (j : Nat) => V.int j)) :=
        ⟨by rw [List.length_map, l1, sizeLine_eq]; omega, pickV items nx, hv, ⟨_, a2, rfl, _, rfl⟩⟩
      have I1 : Inv X pins σ (upd H s.heap.objs.size (.tup (nx.map fun (j : Nat) => V.int j))) { s with heap := h' } :=
        I.turnedNew (ch := [C, p]) (fun c o hcn q => a1 c o (fun e => hcn (by rw [e]; exact List.mem_cons_self)) q) hf (Nat.le_refl _) nw
      refine ⟨_, rfl, letGo_cb a3 ⟨.ref s.heap.objs.size, _, I1, rfl, ⟨_, nx, rfl, I.hok.fresh (Nat.le_refl _), hnx, rfl⟩, ?_, fun c hcm => ?_⟩⟩
      · refine ⟨.ref s.heap.objs.size, items, ?_, a1 p _ (Ne.symm hne) hp.1, hp.2⟩
        rw [List.getD_eq_getElem?_getD, hnx]
        exact a3
      · have hlt : c < s.heap.objs.size := by
          rcases List.mem_cons.mp hcm with rfl | hb
          · cases i with
            | zero => obtain ⟨last, items, h1, h2⟩ := st; exact Heap.lt_size h1
            | succ i => obtain ⟨last, items, h1, h2⟩ := st; exact Heap.lt_size h1
          · cases List.mem_singleton.mp hb
            exact Heap.lt_size hp.1
        rw [upd_ne (Nat.ne_of_lt hlt)]
        exact (hf c hcm).1
    cases i with
    | zero =>
      obtain ⟨last, items, h1, h2⟩ := st
      exact next_cb_first h1 h2.1 hne (by omega) fun h' a1 a2 a3 => fin h' (List.range k) items h2 f1 a1 a2 a3
    | succ i =>
      obtain ⟨last, items, h1, h2⟩ := st
      have hnx : (cbs n k)[i + 1]? = some ((cbs n k)[i + 1]) := List.getElem?_eq_getElem hgi
      have hl : ((cbs n k)[i + 1]).length ≤ 6 := by rw [(f2 _ (List.getElem_mem hgi)).1]; omega
      exact next_cb_more (n := n) (k := k) (i := i) h1 h2.1 hne h2.2.1 hn (by omega) (by omega) rfl hnx hl fun h' a1 a2 a3 => fin h' _ items h2 hnx a1 a2 a3
  done := by
    intro X hP hw hK hc i pins s σ H E I hf st hg
    subst hP hw hK
    obtain ⟨f1, f2, f3, f4⟩ := cbs_facts n (by omega) k (by omega)
    have hgi : i = (cbs n k).length := hg
    cases i with
    | zero => omega
    | succ i =>
      obtain ⟨last, items, h1, h2⟩ := st
      refine next_cb_end (n := n) (k := k) (i := i) (I.ok.hd hc) h1 h2.1 hne h2.2.1 hn (by omega) (by omega) rfl (List.getElem?_eq_none (by omega)) fun h' hk => ⟨rfl, ?_⟩
      exact I.turnedL (ch := [C, p]) (fun c o hcn q => hk c o (fun e => hcn (by rw [e]; exact List.mem_cons_self)) q) hf
  self := fun A i s Q E st h => by
    have hT : s.TypeIs (.ref C) "itertools.combinations" := by
      cases i with
      | zero => obtain ⟨last, items, h1, h2⟩ := st; exact ⟨_, h1, rfl⟩
      | succ i => obtain ⟨last, items, h1, h2⟩ := st; exact ⟨_, h1, rfl⟩
    refine wpAny_pyIter_slot hT slot_cb_iter (wpAny_call_entry slot_cb_iter hT entry_cb_iter ?_ (args_cb_iter _))
    show wpAny _ _ (ret (.ref C)) _ _ s
    exact wpAny_pure ⟨_, rfl, "itertools.combinations", _, hT, slot_cb_next.lookup, h⟩
section
variable {X : Cx} {e b tg : Expr} {tb : TE} {x : Str}
def iCb (ta tb : TE) : TI := fun σ H R => ta σ H fun a H1 => ∃ n : Nat, a = .int (n : Nat) ∧ tb σ H1 fun y H2 => ∃ k : Nat, y = .int (k : Nat) ∧ k ≤ n ∧ n ≤ 6 ∧ R (ItCb n k) H2
theorem pinned {pins : List (Addr × Obj)} {s : Shared} {σ : L2.St} {H : Hp} {o : Obj} {tk : Nat} (I : L2.Inv X pins σ H s) (hfr : o.isFreed = false) (ho : ∀ v, o.data ≠ .cell v) : L2.Inv X ((s.heap.objs.size, o) :: pins) σ H { s with heap := s.heap.push o, toks := tk } := by
  have I1 : L2.Inv X pins σ H { s with heap := s.heap.push o, toks := tk } := I.kept (t' := tk) fun b u e => Heap.get?_push_of_some _ e
  refine { I1 with pin := fun p hp => ?_ }
  rcases List.mem_append.mp hp with h | h
  · exact I1.pin p (List.mem_append_left _ h)
  · rcases List.mem_cons.mp h with rfl | h
    · exact ⟨Heap.get?_push_size _ hfr, I.hok.fresh (Nat.le_refl _), Nat.ne_of_gt I.lt, I.nofs (Nat.le_refl _), ho⟩
    · exact I1.pin p (List.mem_append_right _ h)
theorem unpinned {pins : List (Addr × Obj)} {s : Shared} {σ : L2.St} {H : Hp} {q : Addr × Obj} (I : L2.Inv X (q :: pins) σ H s) : L2.Inv X pins σ H s := { I with pin := fun p hp => I.pin p (by
  rcases List.mem_append.mp hp with h | h
  · exact List.mem_append_left _ h
  · exact List.mem_append_right _ (List.mem_cons_of_mem _ h)) }
theorem pi_cb {a : Expr} {ta : TE} {p pos pr pos2 : Pos} (hc : X.calm = true) (hg : Gl X x) (hm : X.mg x = some (.type "itertools.combinations")) (hgr : Gl X "range") (hmr : X.mg "range" = none) (ha : PE X a ta) (hb : PE X b tb) (hd : (x == ("__debug__" : Str)) = false := by decide)
    (n0 : starEach [a] X.env = (false, eval a X.env) :: starEach [] X.env := by rfl) (na : starEach [.Call (.Name "range" pr) [a] [] pos2, b] X.env = (false, eval (.Call (.Name "range" pr) [a] [] pos2) X.env) :: starEach [b] X.env := by rfl)
    (nb : starEach [b] X.env = (false, eval b X.env) :: starEach [] X.env := by rfl) (hp : (backTo pos (starEach [b] X.env)).any (·.1) = false := by rfl) : PI X tg (.Call (.Name x p) [.Call (.Name "range" pr) [a] [] pos2, b] [] pos) (iCb ta tb) := by
  refine ⟨fun pins s σ H R I h => ?_⟩
  refine Call_ (ld_glob I hg hm (PyProof.Rows.callWith_type1 (args_cons (Call_ (ld_blt I hgr hmr boot_range (PyProof.Rows.callWith_type1 (one_arg ha I h (fun v s2 y H2 I2 r q => ?_) n0) n0))) na) na hp) hd)
  obtain ⟨n, rfl, q⟩ := q
  obtain ⟨t, rfl⟩ := r
  refine call_range_1 ?_
  have I3 : L2.Inv X ((s2.heap.objs.size, ({ cls := .type "range", dict := none, data := .fields #[.int 0 s2.toks, .int (n : Nat) t, .int 1 (s2.toks + 1)], slots := #[] } : Obj)) :: pins) σ H2 _ := pinned (tk := s2.toks + 1 + 1) I2 rfl (fun v z => nomatch z)
  refine one_arg hb I3 q (fun u s4 y H4 I4 r4 q4 => ?_) nb
  obtain ⟨k, rfl, hkn, hn6, qR⟩ := q4
  obtain ⟨t4, rfl⟩ := r4
  have hr : IsRange s4.heap s2.heap.objs.size 0 (n : Nat) 1 s2.toks t (s2.toks + 1) := (I4.pin _ (List.mem_append_right _ List.mem_cons_self)).1
  have e0 : ((n : Nat) : Int) - 0 = n := by omega
  have hsz : Builtin.Range.rangeSize 0 ((n : Nat) : Int) 1 = n := by
    have := rangeSize_nat 0 ((n : Nat) : Int)
    rw [e0] at this
    simpa using this
  refine call_cb (n := n) (k := k) (I4.ok.hd hc) hr (small_one (by decide) (by decide) (by omega) (by omega)) hsz (by omega) (by omega) fun h' tk acc hkp hi => ?_
  have I5 : L2.Inv X pins σ H4 { s4 with heap := h', toks := tk } := (unpinned I4).kept hkp
  have I6 : L2.Inv X pins σ H4 { s4 with heap := (h'.push { cls := .type "tuple", data := .seq acc }).push (CbO h'.objs.size (if k > n then 2 else 0) .none (List.range k)), toks := tk } :=
    I5.kept (t' := tk) fun b o e => Heap.get?_push_of_some _ (Heap.get?_push_of_some _ e)
  have hne : (h'.objs.size + 1 : Nat) ≠ h'.objs.size := by omega
  have e1 : ((h'.push { cls := .type "tuple", data := .seq acc }).push (CbO h'.objs.size (if k > n then 2 else 0) .none (List.range k))).get? (h'.objs.size + 1 : Nat) = some (CbO h'.objs.size 0 .none (List.range k)) := by
    rw [if_neg (by omega)]
    have e5 : (h'.push { cls := Value.type "tuple", data := Data.seq acc }).objs.size = h'.objs.size + 1 := Heap.size_push ..
    rw [← e5]
    exact Heap.get?_push_size _ rfl
  have e2 : ((h'.push { cls := .type "tuple", data := .seq acc }).push (CbO h'.objs.size (if k > n then 2 else 0) .none (List.range k))).get? h'.objs.size = some { cls := .type "tuple", data := .seq acc } := Heap.get?_push_of_some _ (Heap.get?_push_size _ rfl)
  have t0 : CbTn (h'.objs.size + 1 : Nat) h'.objs.size n k 0 ((h'.push { cls := .type "tuple", data := .seq acc }).push (CbO h'.objs.size (if k > n then 2 else 0) .none (List.range k))) := by
    refine ⟨.none, acc, e1, e2, hi.1, fun j hj => ?_⟩
    have hj' : j < acc.toList.length := by rw [Array.length_toList, hi.1]; exact hj
    obtain ⟨t5, h5⟩ := hi.2 j (acc.toList[j]) (by rw [← Array.getElem?_toList]; exact List.getElem?_eq_getElem hj')
    refine ⟨t5, ?_⟩
    rw [List.getElem?_eq_getElem hj', h5]
    have : (0 : Int) + (j : Int) * 1 = j := by omega
    rw [this]
  have T : Turn X.prog X.w X.K tg (ItCb n k) [(h'.objs.size + 1 : Nat), h'.objs.size] (h'.objs.size + 1 : Nat) (CbTn (h'.objs.size + 1 : Nat) h'.objs.size n k) := turn_cb hne hn6 hkn
  refine T.self _ 0 _ _ _ t0 ?_
  refine ⟨_, [(h'.objs.size + 1 : Nat), h'.objs.size], _, _, H4, rfl, I6, T, t0, fun c hcm => ?_, qR⟩
  have hle : h'.objs.size ≤ c := by
    rcases List.mem_cons.mp hcm with rfl | hb
    · exact Nat.le_succ _
    · cases List.mem_singleton.mp hb
      exact Nat.le_refl _
  exact I5.fpOk hle (I5.hok.fresh hle)
end
def iCbD (f g : DEnv → M D) : DEnv → M (List D) := fun ρ n => match f ρ n with
  | some (.int i, n1) => match g ρ n1 with
    | some (.int j, n2) => if 0 ≤ j ∧ j ≤ i ∧ i ≤ 6 then some ((cbs i.toNat j.toNat).map fun c => .tuple (c.map fun (x : Nat) => .int x), n2) else none
    | _ => none
  | _ => none
theorem walkD_cb {K : PySem.W.Frag} {n k : Nat} {Hs : Hp} : WalkD K (ItCb n k) ((cbs n k).map fun c => .tuple (c.map fun (x : Nat) => .int x)) Hs := by
  refine ⟨fun i H s h => by rw [List.length_map] at h; exact h, fun H s => by rw [List.length_map]; rfl, fun i Hs2 H2 x H3 d s1 s2 hd y => ?_⟩
  obtain ⟨T, c, rfl, hT, hc, rfl⟩ := y
  rw [List.getElem?_map, hc] at hd
  cases hd
  have e3 := ExtP.new1 (o := .tup (c.map fun (j : Nat) => V.int j)) s2 hT
  have hr : ∀ (H : Hp) (c : List Nat), RpAll K H (c.map fun (j : Nat) => V.int j) (c.map fun (x : Nat) => PyData.int x) := fun H c => by
    induction c with
    | nil => exact .nil
    | cons a c ih => exact .cons (.int _) ih
  exact ⟨_, e3, .tup (SqT.of upd_same) (hr _ c)⟩
theorem id_cb {X : Cx} {ns : List Int} {c : Md} {W : List Nat} {a b tg : Expr} {f g : DEnv → M D} {x : Str} {p pos pr pos2 : Pos} (hc : X.calm = true) (hg : Gl X x) (hm : X.mg x = some (.type "itertools.combinations")) (hgr : Gl X "range") (hmr : X.mg "range" = none) (ha : ED X ns c W a f) (hb : ED X ns c W b g) (hd : (x == ("__debug__" : Str)) = false := by decide)
    (n0 : starEach [a] X.env = (false, eval a X.env) :: starEach [] X.env := by rfl) (na : starEach [.Call (.Name "range" pr) [a] [] pos2, b] X.env = (false, eval (.Call (.Name "range" pr) [a] [] pos2) X.env) :: starEach [b] X.env := by rfl)
    (nb : starEach [b] X.env = (false, eval b X.env) :: starEach [] X.env := by rfl) (hp : (backTo pos (starEach [b] X.env)).any (·.1) = false := by rfl) : ID X ns c W tg (.Call (.Name x p) [.Call (.Name "range" pr) [a] [] pos2, b] [] pos) (iCbD f g) := by
  refine pi_weak (pi_cb hc hg hm hgr hmr ha hb hd n0 na nb hp) fun σ H R q => ?_
  obtain ⟨Hs0, H0, Hs, ρ, n, ds, n', r, e, q⟩ := q
  unfold iCbD at e
  split at e
  · rename_i i n1 h1
    split at e
    · rename_i j n2 h2
      obtain ⟨hij, e⟩ := Option.some_of_if e
      cases e
      refine ⟨Hs0, H0, Hs, ρ, n, .int i, n1, r, h1, fun v Hs1 H1 e1 c1 r1 => ?_⟩
      have R1 := r.step e1 c1
      refine ⟨i.toNat, by rw [r1.int, Int.toNat_of_nonneg (by omega)], Hs0, H0, Hs1, ρ, n1, .int j, _, R1, h2, fun u Hs2 H2 e2 c2 r2 => ?_⟩
      exact ⟨j.toNat, by rw [r2.int, Int.toNat_of_nonneg (by omega)], by omega, by omega, q _ Hs2 H2 (e1.trans c1 e2) c2 walkD_cb⟩
    · cases e
  · cases e
end DL
/-! DNk: range(i, j, -1). -/
namespace DL
open PySem PySem.Spec PyProof.Rows L2
def rangeN (i : Int) (m : Nat) : List D := (List.range m).map fun k : Nat => .int (i + (k : Nat) * (-1))
theorem walkD_rangeN {K : PySem.W.Frag} {i : Int} {m : Nat} {Hs : Hp} : WalkD K (Itc i (-1) m) (rangeN i m) Hs := by
  refine ⟨fun j H s h => by unfold rangeN at h; rw [List.length_map, List.length_range] at h; exact h, fun H s => by unfold rangeN; rw [List.length_map, List.length_range]; exact Nat.le_refl _, fun j Hs2 H2 x H3 d s1 s2 hd y => ?_⟩
  obtain ⟨rfl, rfl⟩ := y
  unfold rangeN at hd
  rw [List.getElem?_map] at hd
  cases e : (List.range m)[j]? with
  | none => rw [e] at hd; cases hd
  | some a =>
    rw [e] at hd
    cases hd
    have h1 := (List.getElem?_eq_some_iff.mp e).1
    have : a = j := by
      rw [List.getElem?_range (by simpa using h1)] at e
      exact (Option.some.inj e).symm
    subst this
    exact ⟨Hs2, ExtP.refl s2, .int _⟩
def iR3n (A : DEnv → M (List D)) : DEnv → M (List D) := fun ρ n =>
  match A ρ n with
  | some ([.int i, .int j, .int c], n') => if c = -1 ∧ -1000000 ≤ i ∧ i < 1000000 ∧ -1000000 ≤ j ∧ j < 1000000 then some (rangeN i (i - j).toNat, n') else none
  | _ => none
section
variable {X : Cx} {ns : List Int} {c : Md} {W : List Nat} {tg : Expr} {A : DEnv → M (List D)} {p pos : Pos}
theorem id_range3n {a1 a2 a3 : Expr} (hg : Gl X "range") (hm : X.mg "range" = none) (ha : AD X ns c W [a1, a2, a3] A)
    (hs : starEach [a1, a2, a3] X.env = (false, eval a1 X.env) :: starEach [a2, a3] X.env := by rfl) (hpl : (backTo pos (starEach [a2, a3] X.env)).any (·.1) = false := by rfl) : ID X ns c W tg (.Call (.Name "range" p) [a1, a2, a3] [] pos) (iR3n A) := by
  refine pi_weak (pi_range3 hg hm ha hs hpl) fun σ H R q => ?_
  obtain ⟨Hs0, H0, Hs, ρ, n, ds, n', r, e, q⟩ := q
  unfold iR3n at e
  split at e
  · rename_i i j k n1 h1
    obtain ⟨p1, e'⟩ := Option.some_of_if e
    cases e'
    obtain ⟨rfl, q1, q2, q3, q4⟩ := p1
    refine ⟨Hs0, H0, Hs, ρ, n, _, _, r, h1, fun vs Hs' H' e1 c1 r1 => ?_⟩
    obtain ⟨v, w, u, rfl, rv, rw', ru⟩ := pr3 r1
    exact ⟨i, j, -1, _, by rw [rv.int, rw'.int, ru.int], RgC.neg (by omega) (by omega) (by omega) (by omega), q _ Hs' H' e1 c1 walkD_rangeN⟩
  · cases e
end
end DL
/-! DPa: itertools.permutations(xs), facts. -/
namespace DL
open PySem PySem.Spec PyProof.Rows L2
section
theorem mro_pm : mroOf (.type "itertools.permutations") = pure [.type "itertools.permutations", .type "object"] := by rw [mroOf_type]; kernel_rfl
theorem lookup_pm_new : typeLookup (.type "itertools.permutations") "__new__" = pure (some (.builtin "itertools.permutations.__new__")) := by rw [typeLookup_type, builtinLookup_eq_fast]; kernel_rfl
theorem slot_pm_init : Slot "itertools.permutations" "__init__" "object.__init__" :=
  .of (owner := "object") (n := "__init__") (by rw [typeLookup_type, builtinLookup_eq_fast]; kernel_rfl) (by decide +kernel) (by decide +kernel) (by decide +kernel)
    (by first | exact .inl (by decide +kernel) | exact .inr (by decide +kernel)) (by rw [isSubtype_type]; kernel_rfl)
theorem sub_pm : isSubtype (.type "itertools.permutations") (.type "itertools.permutations") = pure true := by rw [isSubtype_type]; kernel_rfl
theorem called_pm : TypeCalled "itertools.permutations" "itertools.permutations.__new__" "object.__init__" :=
  ⟨by decide +kernel, by decide +kernel, ⟨_, _, mro_pm⟩, madeBy_type mro_pm lookup_pm_new (by decide +kernel), by decide +kernel, sub_pm, slot_pm_init⟩
theorem typeCall_pm (a : Value) : checkTypeCall "itertools.permutations" ⟨[a], []⟩ = pure () := by kernel_rfl
theorem newCall_pm (a : Value) : checkBuiltinCall "itertools.permutations.__new__" ⟨[.type "itertools.permutations", a], []⟩ = pure () := by kernel_rfl
theorem entry_pm_new : entryFor table "itertools.permutations.__new__" = some Builtin.«itertools.permutations.__new__» := entryFor_of_tree (by kernel_rfl)
theorem slot_pm_iter : Slot "itertools.permutations" "__iter__" "itertools.permutations.__iter__" :=
  .of (owner := "itertools.permutations") (n := "__iter__") (by rw [typeLookup_type, builtinLookup_eq_fast]; kernel_rfl) (by decide +kernel) (by decide +kernel) (by decide +kernel)
    (by first | exact .inl (by decide +kernel) | exact .inr (by decide +kernel)) sub_pm
theorem slot_pm_next : Slot "itertools.permutations" "__next__" "itertools.permutations.__next__" :=
  .of (owner := "itertools.permutations") (n := "__next__") (by rw [typeLookup_type, builtinLookup_eq_fast]; kernel_rfl) (by decide +kernel) (by decide +kernel) (by decide +kernel)
    (by first | exact .inl (by decide +kernel) | exact .inr (by decide +kernel)) sub_pm
theorem entry_pm_next : entryFor table "itertools.permutations.__next__" = some Builtin.«itertools.permutations.__next__» := entryFor_of_tree (by kernel_rfl)
theorem noDict_pm : typeHasDict (.type "itertools.permutations") = false := by decide +kernel
theorem entry_pm_iter : entryFor table "itertools.permutations.__iter__" = some Builtin.«dict_keyiterator.__iter__» :=
  entryFor_alias (id' := "dict_keyiterator.__iter__") (by kernel_rfl) (by first | rfl | decide +kernel | (unfold String.splitOn; simp +decide [String.splitOnAux])) (by decide +kernel) (by kernel_rfl)
theorem owner_pm : Manifest.owners.lookup (String.ofList ['s', 'n', 'o', 'i', 't', 'a', 't', 'u', 'm', 'r', 'e', 'p', '.', 's', 'l', 'o', 'o', 't', 'r', 'e', 't', 'i'].reverse) = some Manifest.sig_itertools_permutations := by kernel_rfl
theorem args_pm_iter (a : Value) : argsOk "itertools.permutations.__iter__" ⟨[a], []⟩ := by
  unfold argsOk; rw [signature?_of (id := "itertools.permutations.__iter__") (n := ['_', '_', 'r', 'e', 't', 'i', '_', '_']) (o := ['s', 'n', 'o', 'i', 't', 'a', 't', 'u', 'm', 'r', 'e', 'p', '.', 's', 'l', 'o', 'o', 't', 'r', 'e', 't', 'i']) (by kernel_rfl) owner_pm]; kernel_rfl
theorem args_pm_next (a : Value) : argsOk "itertools.permutations.__next__" ⟨[a], []⟩ := by
  unfold argsOk; rw [signature?_of (id := "itertools.permutations.__next__") (n := ['_', '_', 't', 'x', 'e', 'n', '_', '_']) (o := ['s', 'n', 'o', 'i', 't', 'a', 't', 'u', 'm', 'r', 'e', 'p', '.', 's', 'l', 'o', 'o', 't', 'r', 'e', 't', 'i']) (by kernel_rfl) owner_pm]; kernel_rfl
end
end DL
/-! DPb: itertools.permutations(xs), made. -/
namespace DL
open PySem PySem.Spec PyProof.Rows L2
section
variable {prog : Program} {w : World} {A : Around} {E : Value → Shared → Prop} {s : Shared} {l : Addr}
def pmF (p : Addr) (st : Int) (n : Nat) (last : Value) (nums : List Nat) : List Value := [.ref p, .int st 0, .int (n : Nat) 0, last] ++ nums.map fun (i : Nat) => (.int i 0 : Value)
/-- a walk over permutations: its pool, its state, how many places, the last one, its numbers -/
def PmO (p : Addr) (st : Int) (n : Nat) (last : Value) (nums : List Nat) : Obj := { cls := .type "itertools.permutations", dict := none, data := .fields (pmF p st n last nums).toArray, slots := #[] }
def cyc0 (n : Nat) : List Nat := (List.range n).map fun i => n - i
theorem bindP (x : Value) : Builtin.Itertools.itBindNamed "permutations" ["iterable", "r"] 1 2 [x] [] = pure [some x, none] := by rfl
set_option maxHeartbeats 2000000 in
theorem code_pm_new {Q₁ : Value → Shared → Prop} (hh : A.handled = none) {vs : List Value} (hl : s.heap.IsList l vs.toArray) (hlen : vs.length ≤ 1000)
    (h : ∀ (h' : Heap) (tk : Nat), (∀ b o, s.heap.get? b = some o → h'.get? b = some o) →
      Q₁ (.ref (h'.objs.size + 1)) { s with heap := (h'.push { cls := .type "tuple", data := .seq vs.toArray }).push (PmO h'.objs.size 0 vs.length .none (List.range vs.length ++ cyc0 vs.length)), toks := tk }) :
    codeAny (model prog w) A (.call (.builtin "itertools.permutations.__new__") ⟨[.type "itertools.permutations", .ref l], []⟩) (wants Q₁ E) s := by
  refine codeAny_of_tree ?_
  show wpAny _ A.in1 (do checkBuiltinCall "itertools.permutations.__new__" ⟨[.type "itertools.permutations", .ref l], []⟩; again (.builtin "itertools.permutations.__new__" ⟨[.type "itertools.permutations", .ref l], []⟩)) _ _ _
  refine wpAny_bind (wpAny_of_eq (newCall_pm _) (wpAny_pure ⟨plainId_quiet (by decide +kernel) _, codeAny_builtin entry_pm_new ?_⟩))
  rw [Around.under_plainId (by decide +kernel) _]
  have hsub := sub_pm
  have hd := noDict_pm
  have hh1 : A.in1.handled = none := hh
  unfold Builtin.«itertools.permutations.__new__»
  repeat (first
      | wp_step
      | simp only [List.head?_cons, Option.some_or, List.getElem?_cons_succ, List.getElem?_cons_zero, List.length_cons, List.length_nil, List.forIn_nil])
  refine wpAny_of_eq hsub (wpAny_pure ?_)
  refine wpAny_bind (wpAny_of_eq (bindP _) ?_)
  refine wpAny_bind (collect_list hl ?_ (by rw [sizeLine_eq]; omega))
  have hkp : ∀ b o, s.heap.get? b = some o → ((s.heap.push (seqObj "list" #[] 0)).update s.heap.objs.size (Obj.mapSeq (· ++ vs.toArray))).get? b = some o := fun b o q => by
    have hne : b ≠ s.heap.objs.size := Nat.ne_of_lt (Heap.lt_size q)
    exact ((Heap.SameBut.update ..).2 b hne).trans (Heap.get?_push_of_some _ q)
  generalize ((s.heap.push (seqObj "list" #[] 0)).update s.heap.objs.size (Obj.mapSeq (· ++ vs.toArray))) = h1 at hkp ⊢
  have hneg : ¬ ((vs.length : Nat) : Int) < 0 := by omega
  have hmany : ¬ Builtin.Itertools.itTooMany ((vs.length : Nat) : Int) = true := by
    unfold Builtin.Itertools.itTooMany
    rw [decide_eq_true_eq]
    omega
  show wpAny _ _ (pure ((vs.length : Nat) : Int) >>= _) _ _ _
  refine wpAny_bind (wpAny_pure ?_)
  rw [if_neg hneg, if_neg hmany]
  refine wpAny_bind (wpAny_newObj_type ?_ (by show vs.toArray.size ≤ sizeLine; rw [List.size_toArray, sizeLine_eq]; omega))
  have e3 : ((vs.length : Nat) : Int).toNat = vs.length := Int.toNat_natCast _
  show wpAny _ _ (do let x ← Builtin.Itertools.itNewRecord (Value.type "itertools.permutations") ([Value.ref h1.objs.size, rawInt (if ((vs.length : Nat) : Int).toNat > vs.length then 2 else 0), rawInt ((((vs.length : Nat) : Int).toNat : Nat) : Int), Value.none] ++ List.map (fun i => rawInt ((i : Nat) : Int)) (List.range vs.length) ++ List.map (fun i => rawInt ((vs.length : Int) - ((i : Nat) : Int))) (List.range ((vs.length : Nat) : Int).toNat)); _) _ _ _
  rw [e3, if_neg (Nat.lt_irrefl _)]
  unfold Builtin.Itertools.itNewRecord
  rw [hd, if_pos (show (!false) = true from rfl)]
  have ef : ([Value.ref h1.objs.size, rawInt 0, rawInt ((vs.length : Nat) : Int), Value.none] ++ List.map (fun i => rawInt ((i : Nat) : Int)) (List.range vs.length) ++ List.map (fun i => rawInt ((vs.length : Int) - ((i : Nat) : Int))) (List.range vs.length)) = pmF h1.objs.size 0 vs.length .none (List.range vs.length ++ cyc0 vs.length) := by
    unfold pmF cyc0
    rw [List.map_append, List.map_map, List.append_assoc]
    congr 2
    refine List.map_congr_left fun i hi => ?_
    have := List.mem_range.mp hi
    show rawInt ((vs.length : Int) - (i : Int)) = Value.int ((vs.length - i : Nat) : Int) 0
    rw [show ((vs.length - i : Nat) : Int) = (vs.length : Int) - (i : Int) by omega]
    rfl
  rw [ef]
  refine wpAny_bind (wpAny_newObj_type ?_ ?_)
  rotate_left
  · show (pmF h1.objs.size 0 vs.length .none (List.range vs.length ++ cyc0 vs.length)).toArray.size ≤ sizeLine + 2
    rw [List.size_toArray]
    unfold pmF cyc0
    rw [List.length_append, List.length_map, List.length_append, List.length_map, List.length_range, sizeLine_eq]
    show 4 + (vs.length + vs.length) ≤ _
    omega
  refine wpAny_pure ?_
  have hh' := h h1 s.toks hkp
  have e5 : (h1.push { cls := Value.type "tuple", data := Data.seq vs.toArray }).objs.size = h1.objs.size + 1 := Heap.size_push ..
  show Q₁ (.ref (h1.push { cls := Value.type "tuple", data := Data.seq vs.toArray }).objs.size) _
  rw [e5]
  exact hh'
theorem call_pm {Q : Value → Shared → Prop} (hh : A.handled = none) {vs : List Value} (hl : s.heap.IsList l vs.toArray) (hlen : vs.length ≤ 1000)
    (hQ : ∀ (h' : Heap) (tk : Nat), (∀ b o, s.heap.get? b = some o → h'.get? b = some o) →
      Q (.ref (h'.objs.size + 1)) { s with heap := (h'.push { cls := .type "tuple", data := .seq vs.toArray }).push (PmO h'.objs.size 0 vs.length .none (List.range vs.length ++ cyc0 vs.length)), toks := tk }) :
    wpAny (model prog w) A (call (.type "itertools.permutations") [.ref l]) Q E s := by
  refine callType_codes (Q₁ := fun obj s₁ => s₁.TypeIs obj "itertools.permutations" ∧ Q obj s₁) called_pm (typeCall_pm _) F.entry_object_init
    (code_pm_new (A := A.in1) hh hl hlen fun h' tk hkp => ⟨⟨PmO h'.objs.size 0 vs.length .none (List.range vs.length ++ cyc0 vs.length), ?_, rfl⟩, hQ h' tk hkp⟩) fun obj s₁ h₁ => ?_
  · have e5 : (h'.push { cls := Value.type "tuple", data := Data.seq vs.toArray }).objs.size = h'.objs.size + 1 := Heap.size_push ..
    rw [← e5]
    exact Heap.get?_push_size _ rfl
  · exact ⟨h₁.1, by first | exact F.args_object_init_2 _ _ | exact args_object_init_2 _ _ | exact PySem.args_object_init_2 _ _, object_init_meets called_pm.init.lookup called_pm.made (by decide) prog w A.in1 _ s₁ ⟨h₁.1, rfl, h₁.2⟩⟩
end
end DL
/-! DPc: itertools.permutations, its next item. -/
namespace DL
open PySem PySem.Spec PyProof.Rows L2
/-- the next order of n numbers, with the counts that go with it -/
def nxP (n : Nat) : Nat → List Nat → List Nat → Option (List Nat × List Nat)
  | 0, _, _ => none
  | i + 1, a, c =>
    let k := c.getD i 0 - 1
    if k == 0 then nxP n i (a.take i ++ a.drop (i + 1) ++ [a.getD i 0]) (c.set i (n - i))
    else some ((a.set i (a.getD (n - k) 0)).set (n - k) (a.getD i 0), c.set i k)
def pmsF : Nat → Nat → List Nat × List Nat → List (List Nat × List Nat)
  | 0, _, _ => []
  | f + 1, n, s => s :: (match nxP n n s.1 s.2 with | some s' => pmsF f n s' | none => [])
def pms (n : Nat) : List (List Nat × List Nat) := pmsF 130 n (List.range n, cyc0 n)
def flatS (s : List Nat × List Nat) : List Nat := s.1 ++ s.2
def stP (n i : Nat) : List Nat := flatS ((pms n).getD i ([], []))
def tabP (F : Nat → Nat → List Nat → List Nat → Option (List Nat × List Nat)) : Bool := (List.range 6).all fun n => (List.range (pms n).length).all fun i => decide (F n n ((stP n i).take n) ((stP n i).drop n) = (pms n)[i + 1]?)
theorem use_tabP {F : Nat → Nat → List Nat → List Nat → Option (List Nat × List Nat)} {n i : Nat} {r : Option (List Nat × List Nat)} (h : F n n ((stP n i).take n) ((stP n i).drop n) = r) (hn : n ≤ 5) (hi : i < (pms n).length) (ht : tabP F = true) : r = (pms n)[i + 1]? := by
  have h1 := List.all_eq_true.mp ht n (List.mem_range.mpr (by omega))
  have h2 := List.all_eq_true.mp h1 i (List.mem_range.mpr hi)
  rw [← h]
  exact of_decide_eq_true h2
section
variable {prog : Program} {w : World} {A : Around} {E : Value → Shared → Prop} {s : Shared} {C p : Addr} {last : Value} {n i : Nat} {items : Array Value}
theorem pmF_size (p : Addr) (st : Int) (n : Nat) (last : Value) (idx : List Nat) : (pmF p st n last idx).toArray.size = 4 + idx.length := by
  rw [List.size_toArray]
  unfold pmF
  rw [List.length_append, List.length_map]
  rfl
theorem pset1 (p : Addr) (st : Int) (n : Nat) (last : Value) (idx : List Nat) (j : Int) : (pmF p st n last idx).toArray.setIfInBounds 1 (.int j 0) = (pmF p j n last idx).toArray := by
  rw [List.setIfInBounds_toArray]
  rfl
theorem pset3 (p : Addr) (st : Int) (n : Nat) (last x : Value) (idx : List Nat) : (pmF p st n last idx).toArray.setIfInBounds 3 x = (pmF p st n x idx).toArray := by
  rw [List.setIfInBounds_toArray]
  rfl
theorem pnums_from {idx : List Nat} {st : Int} {Q : List Nat → Shared → Prop} (ho : s.heap.get? C = some (PmO p st n last idx)) (h : Q idx s) : wpAny (model prog w) A (Builtin.Itertools.itNumbersFrom (.ref C) 4) Q E s := by
  unfold Builtin.Itertools.itNumbersFrom
  refine wpAny_bind (wpAny_load ho ?_)
  refine wpAny_pure ?_
  have e : (((pmF p st n last idx).toArray.toList.drop 4).map fun | .int n _ => n.toNat | _ => 0) = idx := by
    show ((idx.map fun (i : Nat) => (.int i 0 : Value)).map fun | .int n _ => n.toNat | _ => 0) = idx
    rw [List.map_map]
    conv => rhs; rw [← List.map_id idx]
    exact List.map_congr_left fun i _ => by simp
  show Q (((pmF p st n last idx).toArray.toList.drop 4).map fun | .int n _ => n.toNat | _ => 0) s
  rw [e]
  exact h
theorem pset1o {h : Heap} {st j : Int} {idx : List Nat} (e : h.get? C = some { cls := .type "itertools.permutations", dict := none, data := .fields ((pmF p st n last idx).toArray.setIfInBounds 1 (.int j 0)), slots := #[] }) : h.get? C = some (PmO p j n last idx) := by
  rw [pset1] at e
  exact e
theorem pset3o {h : Heap} {st : Int} {x : Value} {idx : List Nat} (e : h.get? C = some { cls := .type "itertools.permutations", dict := none, data := .fields ((pmF p st n last idx).toArray.setIfInBounds 3 x), slots := #[] }) : h.get? C = some (PmO p st n x idx) := by
  rw [pset3] at e
  exact e
theorem in_pmF (p : Addr) (st : Int) (n : Nat) (last : Value) (idx : List Nat) (i : Nat) (hi : i < 4) : i < (pmF p st n last idx).toArray.size := by
  rw [pmF_size]
  omega
theorem pms_facts : ∀ n, n < 6 → (pms n)[0]? = some (List.range n, cyc0 n) ∧ (∀ c ∈ pms n, c.1.length = n ∧ c.2.length = n ∧ ∀ j ∈ c.1, j < n) ∧ 0 < (pms n).length ∧ (pms n).length ≤ 120 := by decide +kernel
theorem take_st {n : Nat} {c : List Nat × List Nat} (h : c.1.length = n) : (flatS c).take n = c.1 := by
  unfold flatS
  rw [← h, List.take_left]
theorem next_pm_first {Q : Option Value → Shared → Prop} (ho : s.heap.get? C = some (PmO p 0 n last (stP n 0))) (hp : s.heap.get? p = some { cls := .type "tuple", data := .seq items }) (hne : C ≠ p) (hn : items.size = n) (hn5 : n ≤ 5)
    (hQ : ∀ h', (∀ b o, b ≠ C → s.heap.get? b = some o → h'.get? b = some o) → h'.get? s.heap.objs.size = some { cls := .type "tuple", data := .seq (pickV items ((stP n 0).take n)).toArray } → h'.get? C = some (PmO p 1 n (.ref s.heap.objs.size) (stP n 0)) → Q (some (.ref s.heap.objs.size)) { s with heap := h' }) : wpAny (model prog w) A (pyNext (.ref C)) Q E s := by
  have hT : s.TypeIs (.ref C) "itertools.permutations" := ⟨_, ho, rfl⟩
  unfold pyNext
  refine wpAny_bind (wpAny_attempt (wpAny_callSpecial?_slot (name := Str.ofString "__next__") hT slot_pm_next
    (wpAny_call_entry slot_pm_next hT entry_pm_next ?_ (args_pm_next _))))
  show wpAny _ _ (field (.ref C) 0 >>= _) _ _ s
  refine wpAny_bind (wpAny_field ho rfl (x := .ref p) rfl ?_)
  refine wpAny_bind (pool_of hp ?_)
  show wpAny _ _ (Builtin.Itertools.itIntField (.ref C) 2 >>= _) _ _ s
  refine wpAny_bind ?_
  unfold Builtin.Itertools.itIntField
  refine wpAny_bind (wpAny_field ho rfl (x := .int (n : Nat) 0) rfl ?_)
  refine wpAny_pure ?_
  refine wpAny_bind (pnums_from ho ?_)
  refine wpAny_bind ?_
  refine wpAny_bind (wpAny_field ho rfl (x := .int 0 0) rfl ?_)
  refine wpAny_pure ?_
  show wpAny _ _ (setField (.ref C) 1 (rawInt 1) >>= _) _ _ s
  refine wpAny_bind (wpAny_setField_rec ho (in_pmF p 0 n last _ 1 (by decide)) fun h1 e1 sb1 => ?_)
  have e1' : h1.get? C = some (PmO p 1 n last (stP n 0)) := pset1o e1
  rw [show ((n : Nat) : Int).toNat = n from Int.toNat_natCast n]
  show wpAny _ _ (newTuple (pickV items ((stP n 0).take n)) >>= _) _ _ _
  refine wpAny_bind (wpAny_newTuple ?_ (by
    unfold pickV
    rw [List.length_map, List.length_take, sizeLine_eq]
    omega))
  have hC : C ≠ h1.objs.size := Nat.ne_of_lt (Heap.lt_size e1')
  have e2 : (h1.push { cls := .type "tuple", data := .seq (pickV items ((stP n 0).take n)).toArray }).get? C = some (PmO p 1 n last (stP n 0)) := Heap.get?_push_of_some _ e1'
  refine wpAny_bind (wpAny_field e2 rfl (x := last) rfl ?_)
  refine wpAny_bind (wpAny_setField_rec e2 (in_pmF p 1 n last _ 3 (by decide)) fun h2 e3 sb2 => ?_)
  have e3' : h2.get? C = some (PmO p 1 n (.ref h1.objs.size) (stP n 0)) := pset3o e3
  refine wpAny_bind (wpAny_letGo ?_)
  refine wpAny_pure ⟨_, rfl, ?_⟩
  refine wpAny_pure ?_
  have hsz : h1.objs.size = s.heap.objs.size := sb1.1
  have hnew : (h1.push { cls := .type "tuple", data := .seq (pickV items ((stP n 0).take n)).toArray }).get? h1.objs.size = some { cls := .type "tuple", data := .seq (pickV items ((stP n 0).take n)).toArray } := Heap.get?_push_size _ rfl
  have a1 : h2.get? h1.objs.size = some { cls := .type "tuple", data := .seq (pickV items ((stP n 0).take n)).toArray } := (sb2.2 _ (Ne.symm hC)).trans hnew
  have a2 : ∀ b o, b ≠ C → s.heap.get? b = some o → h2.get? b = some o := fun b o hb q => (sb2.2 b hb).trans (Heap.get?_push_of_some _ ((sb1.2 b hb).trans q))
  show Q (some (.ref h1.objs.size)) { s with heap := h2 }
  rw [hsz] at a1 e3' ⊢
  exact hQ h2 a2 a1 e3'
theorem next_pm_more {Q : Option Value → Shared → Prop} {nx : List Nat × List Nat} (ho : s.heap.get? C = some (PmO p 1 n last (stP n i))) (hp : s.heap.get? p = some { cls := .type "tuple", data := .seq items }) (hne : C ≠ p) (hn : items.size = n) (hn5 : n ≤ 5) (hi : i < (pms n).length) (hnx : (pms n)[i + 1]? = some nx)
    (hQ : ∀ h', (∀ b o, b ≠ C → s.heap.get? b = some o → h'.get? b = some o) → h'.get? s.heap.objs.size = some { cls := .type "tuple", data := .seq (pickV items (nx.1.take n)).toArray } → h'.get? C = some (PmO p 1 n (.ref s.heap.objs.size) (flatS nx)) → Q (some (.ref s.heap.objs.size)) { s with heap := h' }) : wpAny (model prog w) A (pyNext (.ref C)) Q E s := by
  have hT : s.TypeIs (.ref C) "itertools.permutations" := ⟨_, ho, rfl⟩
  obtain ⟨f1, f2, f3, f4⟩ := pms_facts n (by omega)
  obtain ⟨l1, l2, _⟩ := f2 nx (List.mem_of_getElem? hnx)
  unfold pyNext
  refine wpAny_bind (wpAny_attempt (wpAny_callSpecial?_slot (name := Str.ofString "__next__") hT slot_pm_next
    (wpAny_call_entry slot_pm_next hT entry_pm_next ?_ (args_pm_next _))))
  show wpAny _ _ (field (.ref C) 0 >>= _) _ _ s
  refine wpAny_bind (wpAny_field ho rfl (x := .ref p) rfl ?_)
  refine wpAny_bind (pool_of hp ?_)
  show wpAny _ _ (Builtin.Itertools.itIntField (.ref C) 2 >>= _) _ _ s
  refine wpAny_bind ?_
  unfold Builtin.Itertools.itIntField
  refine wpAny_bind (wpAny_field ho rfl (x := .int (n : Nat) 0) rfl ?_)
  refine wpAny_pure ?_
  refine wpAny_bind (pnums_from ho ?_)
  refine wpAny_bind ?_
  refine wpAny_bind (wpAny_field ho rfl (x := .int 1 0) rfl ?_)
  refine wpAny_pure ?_
  rw [show ((n : Nat) : Int).toNat = n from Int.toNat_natCast n, hn]
  dsimp only
  split
  · rename_i q
    exact absurd q (by decide)
  rotate_left
  · rename_i q1 q2
    exact absurd rfl q2
  split
  · rename_i a c hs
    have e := use_tabP hs hn5 hi (by decide +kernel)
    rw [hnx] at e
    cases e
    have g0 : s.heap.get? C = some { cls := .type "itertools.permutations", dict := none, data := .fields (pmF p 1 n last (stP n i)).toArray, slots := #[] } := ho
    have hz : ((pmF p 1 n last (stP n i)).toArray.extract 0 4 ++ ((a ++ c).map fun (i : Nat) => rawInt i).toArray) = (pmF p 1 n last (a ++ c)).toArray := by
      have : (pmF p 1 n last (stP n i)).toArray.extract 0 4 = #[.ref p, .int 1 0, .int (n : Nat) 0, last] := by
        rw [List.extract_toArray]
        rfl
      rw [this]
      unfold pmF
      simp [rawInt]
    unfold Builtin.Itertools.itSetNumbersFrom
    refine wpAny_bind (wpAny_updateFields g0 rfl ?_ (by
      show Array.size ((pmF p 1 n last (stP n i)).toArray.extract 0 4 ++ ((a ++ c).map fun (i : Nat) => rawInt i).toArray) ≤ _
      rw [hz, pmF_size, sizeLine_eq, List.length_append]
      have : a.length = n := l1
      have : c.length = n := l2
      omega))
    have sb1 : Heap.SameBut C s.heap (s.heap.update C (Obj.mapFields fun fs => fs.extract 0 4 ++ ((a ++ c).map fun (i : Nat) => rawInt i).toArray)) := Heap.SameBut.update ..
    have e1' : (s.heap.update C (Obj.mapFields fun fs => fs.extract 0 4 ++ ((a ++ c).map fun (i : Nat) => rawInt i).toArray)).get? C = some (PmO p 1 n last (a ++ c)) := by
      rw [Heap.get?_update_self _ g0 rfl]
      show some ({ cls := .type "itertools.permutations", dict := none, data := .fields ((pmF p 1 n last (stP n i)).toArray.extract 0 4 ++ ((a ++ c).map fun (i : Nat) => rawInt i).toArray), slots := #[] } : Obj) = _
      rw [hz]
      rfl
    generalize (s.heap.update C (Obj.mapFields fun fs => fs.extract 0 4 ++ ((a ++ c).map fun (i : Nat) => rawInt i).toArray)) = h1 at sb1 e1' ⊢
    show wpAny _ _ (newTuple (pickV items (a.take n)) >>= _) _ _ _
    refine wpAny_bind (wpAny_newTuple ?_ (by
      unfold pickV
      rw [List.length_map, List.length_take, sizeLine_eq]
      omega))
    have hC : C ≠ h1.objs.size := Nat.ne_of_lt (Heap.lt_size e1')
    have e2 : (h1.push { cls := .type "tuple", data := .seq (pickV items (a.take n)).toArray }).get? C = some (PmO p 1 n last (a ++ c)) := Heap.get?_push_of_some _ e1'
    refine wpAny_bind (wpAny_field e2 rfl (x := last) rfl ?_)
    refine wpAny_bind (wpAny_setField_rec e2 (in_pmF p 1 n last _ 3 (by decide)) fun h2 e3 sb2 => ?_)
    have e3' : h2.get? C = some (PmO p 1 n (.ref h1.objs.size) (a ++ c)) := pset3o e3
    refine wpAny_bind (wpAny_letGo ?_)
    refine wpAny_pure ⟨_, rfl, ?_⟩
    refine wpAny_pure ?_
    have hsz : h1.objs.size = s.heap.objs.size := sb1.1
    have hnew : (h1.push { cls := .type "tuple", data := .seq (pickV items (a.take n)).toArray }).get? h1.objs.size = some { cls := .type "tuple", data := .seq (pickV items (a.take n)).toArray } := Heap.get?_push_size _ rfl
    have a1 : h2.get? h1.objs.size = some { cls := .type "tuple", data := .seq (pickV items (a.take n)).toArray } := (sb2.2 _ (Ne.symm hC)).trans hnew
    have a2 : ∀ b o, b ≠ C → s.heap.get? b = some o → h2.get? b = some o := fun b o hb q => (sb2.2 b hb).trans (Heap.get?_push_of_some _ ((sb1.2 b hb).trans q))
    show Q (some (.ref h1.objs.size)) { s with heap := h2 }
    rw [hsz] at a1 e3' ⊢
    exact hQ h2 a2 a1 e3'
  · rename_i hs
    have e := use_tabP hs hn5 hi (by decide +kernel)
    rw [hnx] at e
    cases e
theorem next_pm_end {Q : Option Value → Shared → Prop} (hh : A.handled = none) (ho : s.heap.get? C = some (PmO p 1 n last (stP n i))) (hp : s.heap.get? p = some { cls := .type "tuple", data := .seq items }) (hne : C ≠ p) (hn : items.size = n) (hn5 : n ≤ 5) (hi : i < (pms n).length) (hnx : (pms n)[i + 1]? = none)
    (hQ : ∀ h', (∀ b o, b ≠ C → s.heap.get? b = some o → h'.get? b = some o) → Q none { s with heap := h' }) : wpAny (model prog w) A (pyNext (.ref C)) Q E s := by
  have hT : s.TypeIs (.ref C) "itertools.permutations" := ⟨_, ho, rfl⟩
  unfold pyNext
  refine wpAny_bind (wpAny_attempt (wpAny_callSpecial?_slot (name := Str.ofString "__next__") hT slot_pm_next
    (wpAny_call_entry slot_pm_next hT entry_pm_next ?_ (args_pm_next _))))
  show wpAny _ _ (field (.ref C) 0 >>= _) _ _ s
  refine wpAny_bind (wpAny_field ho rfl (x := .ref p) rfl ?_)
  refine wpAny_bind (pool_of hp ?_)
  show wpAny _ _ (Builtin.Itertools.itIntField (.ref C) 2 >>= _) _ _ s
  refine wpAny_bind ?_
  unfold Builtin.Itertools.itIntField
  refine wpAny_bind (wpAny_field ho rfl (x := .int (n : Nat) 0) rfl ?_)
  refine wpAny_pure ?_
  refine wpAny_bind (pnums_from ho ?_)
  refine wpAny_bind ?_
  refine wpAny_bind (wpAny_field ho rfl (x := .int 1 0) rfl ?_)
  refine wpAny_pure ?_
  rw [show ((n : Nat) : Int).toNat = n from Int.toNat_natCast n, hn]
  dsimp only
  split
  · rename_i q
    exact absurd q (by decide)
  rotate_left
  · rename_i q1 q2
    exact absurd rfl q2
  split
  · rename_i a c hs
    have e := use_tabP hs hn5 hi (by decide +kernel)
    rw [hnx] at e
    cases e
  · refine wpAny_bind (wpAny_setField_rec ho (in_pmF p 1 n last _ 1 (by decide)) fun h1 e1 sb1 => ?_)
    show wpAny _ _ (newExc (.type "StopIteration") [] >>= _) _ _ _
    refine wpAny_bind ?_
    simp only [newExc, newTuple]
    refine wpAny_bind (wpAny_newObj_type ?_ (by size_fits))
    refine wpAny_bind (m := firstArgMember _ _) (wpAny_of_eq (a := Value.none) (by first | rfl | (simp only [firstArgMember]; rfl)) ?_)
    refine wpAny_newObj_type ?_ (by size_fits)
    simp only [raiseNew]
    refine wpAny_bind (wpAny_handled ?_)
    first | rw [show A.in1.handled = none from hh] | rw [hh]
    refine wpAny_bind (wpAny_pure (wpAny_throw ?_))
    refine wpAny_bind (wpAny_isInstance (T := "StopIteration") (b := true) ⟨_, Heap.get?_push_size _ rfl, rfl⟩ isSubtype_stop ?_)
    exact wpAny_pure (hQ _ fun b o hb q => Heap.get?_push_of_some _ (Heap.get?_push_of_some _ ((sb1.2 b hb).trans q)))
end
end DL
/-! DPd: for .. in permutations(xs). -/
namespace DL
open PySem PySem.Spec PyProof.Rows L2
def ItPm (xs : List V) (n : Nat) : It := ⟨fun i _ => i < (pms n).length, fun i H v H' => ∃ T c, v = .ref T ∧ H T = none ∧ (pms n)[i]? = some c ∧ H' = upd H T (.tup (c.1.map fun j => xs.getD j .non)), fun i _ => i = (pms n).length⟩
def PmTn (C p : Addr) (n : Nat) (items : Array Value) : Nat → Heap → Prop
  | 0, h => ∃ last, h.get? C = some (PmO p 0 n last (stP n 0)) ∧ h.get? p = some { cls := .type "tuple", data := .seq items }
  | i + 1, h => ∃ last, h.get? C = some (PmO p 1 n last (stP n i)) ∧ h.get? p = some { cls := .type "tuple", data := .seq items }
theorem vals_getD : ∀ {xs : List V} {us : List Value}, Vals xs us → ∀ j, j < xs.length → RelV (xs.getD j .non) (us.getD j .none)
  | [], _, _, j, h => absurd h (Nat.not_lt_zero j)
  | x :: xs, _, .cons r t, 0, _ => r
  | x :: xs, _, .cons r t, j + 1, h => by
    have := vals_getD t j (by rw [List.length_cons] at h; omega)
    exact this
theorem pick_pm {xs : List V} {items : Array Value} (hv : Vals xs items.toList) : ∀ {c : List Nat}, (∀ j ∈ c, j < xs.length) → Vals (c.map fun j => xs.getD j .non) (pickV items c)
  | [], _ => .nil
  | j :: c, h => by
    have e : items.getD j .none = items.toList.getD j .none := by
      rw [Array.getD_eq_getD_getElem?, List.getD_eq_getElem?_getD, Array.getElem?_toList]
    show Vals (xs.getD j .non :: c.map fun j => xs.getD j .non) (items.getD j .none :: pickV items c)
    rw [e]
    exact .cons (vals_getD hv j (h j List.mem_cons_self)) (pick_pm hv fun x hx => h x (List.mem_cons_of_mem _ hx))
theorem letGo_pm {M : Model} {A : Around} {E : Value → Shared → Prop} {s : Shared} {tg : Expr} {C p : Addr} {st : Int} {n : Nat} {last u : Value} {idx : List Nat} {Q : Unit → Shared → Prop} (ho : s.heap.get? C = some (PmO p st n last idx)) (hQ : Q () s) : wpAny M A (letOwnedTupleGo tg (.ref C) u) Q E s :=
  go_of ho rfl rfl (by decide +kernel) hQ
theorem stP_of {n i : Nat} {c : List Nat × List Nat} (h : (pms n)[i]? = some c) : stP n i = flatS c := by
  unfold stP
  rw [List.getD_eq_getElem?_getD, h]
  rfl
theorem turn_pm {P : Program} {w : World} {K : PySem.W.Frag} {tg : Expr} {C p : Addr} {n : Nat} {xs : List V} {items : Array Value} (hne : C ≠ p) (hn : n ≤ 5) (hxs : xs.length = n) (hv : Vals xs items.toList) : Turn P w K tg (ItPm xs n) [C, p] C (PmTn C p n items) where
  mem := List.mem_cons_self
  obj := fun i h st b hb => by
    have key : ∀ st last idx, h.get? C = some (PmO p st n last idx) → h.get? p = some { cls := .type "tuple", data := .seq items } → ∃ o, h.get? b = some o ∧ ∀ v, o.data ≠ .cell v := fun st last idx h1 h2 => by
      rcases List.mem_cons.mp hb with rfl | hb
      · exact ⟨_, h1, fun v q => nomatch q⟩
      · cases List.mem_singleton.mp hb
        exact ⟨_, h2, fun v q => nomatch q⟩
    cases i with
    | zero => obtain ⟨last, h1, h2⟩ := st; exact key _ _ _ h1 h2
    | succ i => obtain ⟨last, h1, h2⟩ := st; exact key _ _ _ h1 h2
  keep := fun i h h' st k => by
    cases i with
    | zero => obtain ⟨last, h1, h2⟩ := st; exact ⟨last, k C List.mem_cons_self _ h1, k p (List.mem_cons_of_mem _ List.mem_cons_self) _ h2⟩
    | succ i => obtain ⟨last, h1, h2⟩ := st; exact ⟨last, k C List.mem_cons_self _ h1, k p (List.mem_cons_of_mem _ List.mem_cons_self) _ h2⟩
  item := by
    intro X hP hw hK hc i pins s σ H E I hf st hg
    subst hP hw hK
    obtain ⟨f1, f2, f3, f4⟩ := pms_facts n (by omega)
    have hgi : i < (pms n).length := hg
    have hsz : items.size = n := by rw [← hxs, hv.length, Array.length_toList]
    have fin : ∀ (h' : Heap) (nx : List Nat × List Nat), s.heap.get? p = some { cls := .type "tuple", data := .seq items } → (pms n)[i]? = some nx → (∀ b o, b ≠ C → s.heap.get? b = some o → h'.get? b = some o) → h'.get? s.heap.objs.size = some { cls := .type "tuple", data := .seq (pickV items nx.1).toArray } → h'.get? C = some (PmO p 1 n (.ref s.heap.objs.size) (stP n i)) →
        ∃ u, (some (Value.ref s.heap.objs.size) : Option Value) = some u ∧ wpAny (model X.prog X.w) X.A (letOwnedTupleGo tg (.ref C) u) (fun _ s2 => ∃ x H', Inv X pins σ H' s2 ∧ RelV x u ∧ (ItPm xs n).yld i H x H' ∧ PmTn C p n items (i + 1) s2.heap ∧ ∀ b ∈ [C, p], H' b = none) E { s with heap := h' } := by
      intro h' nx hp hnx a1 a2 a3
      obtain ⟨l1, l2, l3⟩ := f2 nx (List.mem_of_getElem? hnx)
      have hpv := pick_pm hv (c := nx.1) (fun j hj => by rw [hxs]; exact l3 j hj)
      have nw : ObjOk X.prog X.w (upd H s.heap.objs.size (.tup (nx.1.map fun j => xs.getD j .non))) h' s.heap.objs.size (.tup (nx.1.map fun j => xs.getD j .non)) :=
        ⟨by rw [List.length_map, l1, sizeLine_eq]; omega, pickV items nx.1, hpv, ⟨_, a2, rfl, _, rfl⟩⟩
      have I1 : Inv X pins σ (upd H s.heap.objs.size (.tup (nx.1.map fun j => xs.getD j .non))) { s with heap := h' } :=
        I.turnedNew (ch := [C, p]) (fun c o hcn q => a1 c o (fun e => hcn (by rw [e]; exact List.mem_cons_self)) q) hf (Nat.le_refl _) nw
      refine ⟨_, rfl, letGo_pm a3 ⟨.ref s.heap.objs.size, _, I1, rfl, ⟨_, nx, rfl, I.hok.fresh (Nat.le_refl _), hnx, rfl⟩, ?_, fun c hcm => ?_⟩⟩
      · exact ⟨.ref s.heap.objs.size, a3, a1 p _ (Ne.symm hne) hp⟩
      · have hlt : c < s.heap.objs.size := by
          rcases List.mem_cons.mp hcm with rfl | hb
          · cases i with
            | zero => obtain ⟨last, h1, h2⟩ := st; exact Heap.lt_size h1
            | succ i => obtain ⟨last, h1, h2⟩ := st; exact Heap.lt_size h1
          · cases List.mem_singleton.mp hb
            exact Heap.lt_size hp
        rw [upd_ne (Nat.ne_of_lt hlt)]
        exact (hf c hcm).1
    cases i with
    | zero =>
      obtain ⟨last, h1, h2⟩ := st
      refine next_pm_first h1 h2 hne hsz hn fun h' a1 a2 a3 => fin h' _ h2 f1 a1 ?_ a3
      rw [stP_of f1, take_st (by rw [List.length_range])] at a2
      exact a2
    | succ i =>
      obtain ⟨last, h1, h2⟩ := st
      have hnx : (pms n)[i + 1]? = some ((pms n)[i + 1]) := List.getElem?_eq_getElem hgi
      obtain ⟨l1, l2, l3⟩ := f2 _ (List.mem_of_getElem? hnx)
      refine next_pm_more (n := n) (i := i) h1 h2 hne hsz hn (by omega) hnx fun h' a1 a2 a3 => fin h' _ h2 hnx a1 ?_ ?_
      · rw [List.take_of_length_le (by omega)] at a2
        exact a2
      · rw [stP_of hnx]
        exact a3
  done := by
    intro X hP hw hK hc i pins s σ H E I hf st hg
    subst hP hw hK
    obtain ⟨f1, f2, f3, f4⟩ := pms_facts n (by omega)
    have hgi : i = (pms n).length := hg
    have hsz : items.size = n := by rw [← hxs, hv.length, Array.length_toList]
    cases i with
    | zero => omega
    | succ i =>
      obtain ⟨last, h1, h2⟩ := st
      refine next_pm_end (n := n) (i := i) (I.ok.hd hc) h1 h2 hne hsz hn (by omega) (List.getElem?_eq_none (by omega)) fun h' hk => ⟨rfl, ?_⟩
      exact I.turnedL (ch := [C, p]) (fun c o hcn q => hk c o (fun e => hcn (by rw [e]; exact List.mem_cons_self)) q) hf
  self := fun A i s Q E st h => by
    have hT : s.TypeIs (.ref C) "itertools.permutations" := by
      cases i with
      | zero => obtain ⟨last, h1, h2⟩ := st; exact ⟨_, h1, rfl⟩
      | succ i => obtain ⟨last, h1, h2⟩ := st; exact ⟨_, h1, rfl⟩
    refine wpAny_pyIter_slot hT slot_pm_iter (wpAny_call_entry slot_pm_iter hT entry_pm_iter ?_ (args_pm_iter _))
    show wpAny _ _ (ret (.ref C)) _ _ s
    exact wpAny_pure ⟨_, rfl, "itertools.permutations", _, hT, slot_pm_next.lookup, h⟩
def iPm (K : PySem.W.Frag) (ta : TE) : TI := fun σ H R => ta σ H fun y H1 => ∃ l xs, y = .ref l ∧ SqL K H1 l xs ∧ xs.length ≤ 5 ∧ R (ItPm xs xs.length) H1
theorem pi_pm {X : Cx} {a tg : Expr} {ta : TE} {x : Str} {p pos : Pos} (hc : X.calm = true) (hg : Gl X x) (hm : X.mg x = some (.type "itertools.permutations")) (ha : PE X a ta) (hd : (x == ("__debug__" : Str)) = false := by decide)
    (n0 : starEach [a] X.env = (false, eval a X.env) :: starEach [] X.env := by rfl) : PI X tg (.Call (.Name x p) [a] [] pos) (iPm X.K ta) := by
  refine ⟨fun pins s σ H R I h => ?_⟩
  refine Call_ (ld_glob I hg hm (PyProof.Rows.callWith_type1 (one_arg ha I h (fun v s2 y H2 I2 r q => ?_) n0) n0) hd)
  obtain ⟨l, xs, rfl, hs, h5, qR⟩ := q
  obtain rfl : v = Value.ref l := r
  obtain ⟨its, rv, pl, hz⟩ := I2.list hs
  have hlen : xs.length = its.length := rv.length
  refine call_pm (I2.ok.hd hc) pl.isList (by omega) fun h' tk hkp => ?_
  have I5 : L2.Inv X pins σ H2 { s2 with heap := h', toks := tk } := I2.kept hkp
  have I6 : L2.Inv X pins σ H2 { s2 with heap := (h'.push { cls := .type "tuple", data := .seq its.toArray }).push (PmO h'.objs.size 0 its.length .none (List.range its.length ++ cyc0 its.length)), toks := tk } :=
    I5.kept (t' := tk) fun b o e => Heap.get?_push_of_some _ (Heap.get?_push_of_some _ e)
  have hne : (h'.objs.size + 1 : Nat) ≠ h'.objs.size := by omega
  obtain ⟨f1, -⟩ := pms_facts its.length (by omega)
  have e1 : ((h'.push { cls := .type "tuple", data := .seq its.toArray }).push (PmO h'.objs.size 0 its.length .none (List.range its.length ++ cyc0 its.length))).get? (h'.objs.size + 1 : Nat) = some (PmO h'.objs.size 0 its.length .none (stP its.length 0)) := by
    rw [stP_of f1]
    have e5 : (h'.push { cls := Value.type "tuple", data := Data.seq its.toArray }).objs.size = h'.objs.size + 1 := Heap.size_push ..
    rw [← e5]
    exact Heap.get?_push_size _ rfl
  have e2 : ((h'.push { cls := .type "tuple", data := .seq its.toArray }).push (PmO h'.objs.size 0 its.length .none (List.range its.length ++ cyc0 its.length))).get? h'.objs.size = some { cls := .type "tuple", data := .seq its.toArray } := Heap.get?_push_of_some _ (Heap.get?_push_size _ rfl)
  have t0 : PmTn (h'.objs.size + 1 : Nat) h'.objs.size its.length its.toArray 0 ((h'.push { cls := .type "tuple", data := .seq its.toArray }).push (PmO h'.objs.size 0 its.length .none (List.range its.length ++ cyc0 its.length))) := ⟨.none, e1, e2⟩
  have T : Turn X.prog X.w X.K tg (ItPm xs its.length) [(h'.objs.size + 1 : Nat), h'.objs.size] (h'.objs.size + 1 : Nat) (PmTn (h'.objs.size + 1 : Nat) h'.objs.size its.length its.toArray) := turn_pm hne (by omega) hlen (by simpa using rv)
  refine T.self _ 0 _ _ _ t0 ?_
  rw [← hlen] at T t0 I6 ⊢
  refine ⟨_, [(h'.objs.size + 1 : Nat), h'.objs.size], _, _, H2, rfl, I6, T, t0, fun c hcm => ?_, qR⟩
  have hle : h'.objs.size ≤ c := by
    rcases List.mem_cons.mp hcm with rfl | hb
    · exact Nat.le_succ _
    · cases List.mem_singleton.mp hb
      exact Nat.le_refl _
  exact I5.fpOk hle (I5.hok.fresh hle)
def prD (es : List D) : List D := (pms es.length).map fun c => .tuple (c.1.map fun j => es.getD j .none)
def iPmD (f : DEnv → M D) : DEnv → M (List D) := fun ρ n => match f ρ n with
  | some (.list es, n1) => if es.length ≤ 5 then some (prD es, n1) else none
  | _ => none
theorem rp_getD {K : PySem.W.Frag} {H : Hp} : ∀ {xs : List V} {es : List D}, RpAll K H xs es → ∀ j, Rp K H (xs.getD j .non) (es.getD j .none)
  | _, _, .nil, j => by simp; exact .non
  | _, _, .cons r t, 0 => r
  | _, _, .cons r t, j + 1 => rp_getD t j
theorem walkD_pm {K : PySem.W.Frag} {xs : List V} {es : List D} {Hs : Hp} (r : RpAll K Hs xs es) : WalkD K (ItPm xs es.length) (prD es) Hs := by
  unfold prD
  refine ⟨fun i H s h => by rw [List.length_map] at h; exact h, fun H s => by rw [List.length_map]; rfl, fun i Hs2 H2 x H3 d s1 s2 hd y => ?_⟩
  obtain ⟨T, c, rfl, hT, hc, rfl⟩ := y
  rw [List.getElem?_map, hc] at hd
  cases hd
  have e3 := ExtP.new1 (o := .tup (c.1.map fun j => xs.getD j .non)) s2 hT
  have r2 := RpAll.same (Same.trans' s1 e3.st) _ _ r
  have hr : ∀ (c : List Nat), RpAll K (upd Hs2 T (.tup (c.map fun j => xs.getD j .non))) [] [] := fun _ => .nil
  have hr : ∀ (l : List Nat), RpAll K (upd Hs2 T (.tup (c.1.map fun j => xs.getD j .non))) (l.map fun j => xs.getD j .non) (l.map fun j => es.getD j .none) := fun l => by
    induction l with
    | nil => exact .nil
    | cons a l ih => exact .cons (rp_getD r2 a) ih
  exact ⟨_, e3, .tup (SqT.of upd_same) (hr c.1)⟩
theorem id_pm {X : Cx} {ns : List Int} {c : Md} {W : List Nat} {a tg : Expr} {f : DEnv → M D} {x : Str} {p pos : Pos} (hc : X.calm = true) (hg : Gl X x) (hm : X.mg x = some (.type "itertools.permutations")) (ha : ED X ns c W a f) (hd : (x == ("__debug__" : Str)) = false := by decide)
    (n0 : starEach [a] X.env = (false, eval a X.env) :: starEach [] X.env := by rfl) : ID X ns c W tg (.Call (.Name x p) [a] [] pos) (iPmD f) := by
  refine pi_weak (pi_pm hc hg hm ha hd n0) fun σ H R q => ?_
  obtain ⟨Hs0, H0, Hs, ρ, n, ds, n', r, e, q⟩ := q
  unfold iPmD at e
  split at e
  · rename_i es n1 h1
    obtain ⟨h5, e⟩ := Option.some_of_if e
    cases e
    refine ⟨Hs0, H0, Hs, ρ, n, .list es, _, r, h1, fun v Hs1 H1 e1 c1 r1 => ?_⟩
    obtain ⟨l, xs, rfl, h2, r2⟩ := r1.list
    have R1 := r.step e1 c1
    have hl := r2.length
    refine ⟨l, xs, rfl, SqL.of (R1.sub _ _ h2), by omega, ?_⟩
    rw [hl]
    exact q _ Hs1 H1 e1 c1 (walkD_pm r2)
  · cases e
end DL
/-! DPe: own lists looked at for a tuple of ints. -/
namespace DL
open PySem PySem.Spec PyProof.Rows L2
def isI : D → Bool
  | .int _ => true
  | _ => false
def fTup (f : DEnv → M D) : DEnv → M D := fun ρ n => match f ρ n with
  | some (.tuple ds, n') => if ds.all isI = true then some (.tuple ds, n') else none
  | _ => none
theorem rp_ints {K : PySem.W.Frag} {H H' : Hp} : ∀ {ds : List D} {vs : List V}, ds.all isI = true → RpAll K H vs ds → RpAll K H' vs ds
  | [], _, _, h => by cases h; exact .nil
  | d :: ds, _, ha, h => by
    rw [List.all_cons, Bool.and_eq_true] at ha
    cases h with
    | cons r t =>
      cases d with
      | int i => cases r; exact .cons (.int i) (rp_ints ha.2 t)
      | _ => cases ha.1
theorem ed_borT {X : Cx} {ns : List Int} {c : Md} {W W1 : List Nat} {e : Expr} {f : DEnv → M D} (hW : ∀ i ∈ W1, i ∈ W) (h : ED X ns c W1 e f) : ED X ns c W e (fTup f) := by
  refine pe_weak h fun σ H Q q => ?_
  obtain ⟨Hs0, H0, Hs, ρ, n, z, n', R, e, q⟩ := q
  unfold fTup at e
  split at e
  · rename_i ds n1 h1
    obtain ⟨hi, e⟩ := Option.some_of_if e
    cases e
    have hfs := R.frzS W1
    refine ⟨Hs0, H0, _, ρ, n, .tuple ds, _, R.frz W1 hW, h1, fun v Hs' H' e1 c1 r1 => ?_⟩
    have base : Ext c Hs H Hs H' := ⟨Same.rfl', e1.al, fun p o h => e1.al p o (fun q hq z => by rw [z, R.hc q hq] at h; cases h) (R.sub p o h), fun p h => .inl h⟩
    have rp := r1.rp (noDict_of (x := .tuple ds) rfl)
    cases rp with
    | @tup a xs _ hq ha =>
      have ha' : ∀ Hx : Hp, RpAll X.K Hx xs ds := fun Hx => rp_ints hi ha
      have key : ∀ o : HO, Hs' a = some o → (∀ vs, o ≠ .lst vs) → (∀ φ, o ≠ .ext φ) → SqT X.K (fun p => if p = a then Hs' a else Hs p) a xs → Q (.ref a) H' := fun o ho h1 h2 hs => by
        have hsame : Same Hs (fun p => if p = a then Hs' a else Hs p) := fun p u hp => by
          by_cases z : p = a
          · subst z
            show (if p = p then Hs' p else Hs p) = some u
            rw [if_pos rfl]
            exact e1.st _ _ (hfs _ _ hp)
          · show (if p = a then Hs' a else Hs p) = some u
            rw [if_neg z]
            exact hp
        refine q (.ref a) (fun p => if p = a then Hs' a else Hs p) H' ⟨hsame, e1.al, fun p u hp => ?_, fun p hp => ?_⟩ c1 (.inl (.tup hs (ha' _)))
        · by_cases z : p = a
          · subst z
            have hp' : (if p = p then Hs' p else Hs p) = some u := hp
            rw [if_pos rfl] at hp'
            exact e1.sub _ _ hp'
          · have hp' : (if p = a then Hs' a else Hs p) = some u := hp
            rw [if_neg z] at hp'
            exact base.sub p u hp'
        · by_cases z : p = a
          · subst z
            rcases e1.new p (by rw [ho]; exact fun z => nomatch z) with w | w
            · unfold frzH at w
              by_cases qq : ∃ i, i ∈ W ∧ i ∉ W1 ∧ σ[i]? = some (some (.ref p))
              · exfalso
                obtain ⟨i, i1, i2, i3⟩ := qq
                obtain ⟨p', o', d', a1, a2, a3, a4, a5, a6, a7⟩ := R.own i i1
                rw [a2] at i3
                cases i3
                have hfz : frzH W W1 σ Hs H p = some o' := by
                  unfold frzH
                  rw [if_pos ⟨i, i1, i2, a2⟩]
                  exact a3
                have := e1.st _ _ hfz
                rw [ho] at this
                cases this
                rcases a4 with ⟨vs, ds', g1, _⟩ | ⟨kvs, xs', ep, _, g1, _⟩
                · exact h1 vs g1
                · exact h2 _ g1
              · rw [if_neg qq] at w
                exact .inl w
            · exact .inr w
          · have hp' : (if p = a then Hs' a else Hs p) ≠ none := hp
            rw [if_neg z] at hp'
            exact .inl hp'
      rcases hq with (hq | ⟨o, hq⟩) | hq
      · exact key _ hq (fun _ z => nomatch z) (fun _ z => nomatch z) (.inl (.inl (by show (if a = a then Hs' a else Hs a) = _; rw [if_pos rfl]; exact hq)))
      · exact key _ hq (fun _ z => nomatch z) (fun _ z => nomatch z) (.inl (.inr ⟨o, by show (if a = a then Hs' a else Hs a) = _; rw [if_pos rfl]; exact hq⟩))
      · exact q (.ref a) Hs H' base c1 (.inl (.tup (.inr hq) (ha' _)))
  · cases e
end DL
namespace DL
open PySem PySem.Spec PyProof.Rows L2
/-! ### the text -/
def top (i : Nat) : Stmt := PySem.Challenge.pw_blockpiles_k25_whole_best_sequences.main.body.getD i (.Pass ⟨0, 0, 0, 0⟩)
def k_MOST_WIDTH : D := (.int 8)
def k_MOST_WEIGHT : D := (.int 9)
def k_MOST_BLOCKS : D := (.int 5)
abbrev N_law_cell_at : List Str := ["_law_script", "_law_k", "_law_spare", "_law_again"]
theorem sc_law_cell_at : FnScope N_law_cell_at ["_law_script", "_law_k"] (defScope (top 25)) := ⟨rfl, rfl, rfl, by decide +kernel, rfl, by decide +kernel, by decide +kernel⟩
abbrev N_law_mixed : List Str := ["_law_script", "_law_k", "_law_many", "_law_spun"]
theorem sc_law_mixed : FnScope N_law_mixed ["_law_script", "_law_k", "_law_many"] (defScope (top 26)) := ⟨rfl, rfl, rfl, by decide +kernel, rfl, by decide +kernel, by decide +kernel⟩
abbrev N_law_draw : List Str := ["_law_script", "_law_state", "_law_many"]
theorem sc_law_draw : FnScope N_law_draw ["_law_script", "_law_state", "_law_many"] (defScope (top 27)) := ⟨rfl, rfl, rfl, by decide +kernel, rfl, by decide +kernel, by decide +kernel⟩
abbrev N_law_orders : List Str := ["_law_count", "_law_found", "_law_again", "_law_longer", "_law_one", "_law_number"]
theorem sc_law_orders : FnScope N_law_orders ["_law_count"] (defScope (top 28)) := ⟨rfl, rfl, rfl, by decide +kernel, rfl, by decide +kernel, by decide +kernel⟩
abbrev N_reduced : List Str := ["top", "bottom", "common"]
theorem sc_reduced : FnScope N_reduced ["top", "bottom"] (defScope (top 8)) := ⟨rfl, rfl, rfl, by decide +kernel, rfl, by decide +kernel, by decide +kernel⟩
abbrev N_weights_from : List Str := ["blocks", "_", "weight", "k"]
theorem sc_weights_from : FnScope N_weights_from ["blocks"] (defScope (top 16)) := ⟨rfl, rfl, rfl, by decide +kernel, rfl, by decide +kernel, by decide +kernel⟩
abbrev N_common_weight : List Str := ["blocks", "common", "weight"]
theorem sc_common_weight : FnScope N_common_weight ["blocks"] (defScope (top 17)) := ⟨rfl, rfl, rfl, by decide +kernel, rfl, by decide +kernel, by decide +kernel⟩
abbrev N_lefts_toward : List Str := ["blocks", "number", "common", "weights", "middle", "lefts", "k", "width", "weight", "half", "lean"]
theorem sc_lefts_toward : FnScope N_lefts_toward ["blocks", "number", "common"] (defScope (top 18)) := ⟨rfl, rfl, rfl, by decide +kernel, rfl, by decide +kernel, by decide +kernel⟩
abbrev N_farthest_tower : List Str := ["blocks", "common", "found", "k", "block", "lefts", "right"]
theorem sc_farthest_tower : FnScope N_farthest_tower ["blocks"] (defScope (top 19)) := ⟨rfl, rfl, rfl, by decide +kernel, rfl, by decide +kernel, by decide +kernel⟩
abbrev N_reach_of : List Str := ["blocks", "right", "_", "bottom"]
theorem sc_reach_of : FnScope N_reach_of ["blocks"] (defScope (top 20)) := ⟨rfl, rfl, rfl, by decide +kernel, rfl, by decide +kernel, by decide +kernel⟩
abbrev N_is_tuple : List Str := ["value", "many"]
theorem sc_is_tuple : FnScope N_is_tuple ["value", "many"] (defScope (top 7)) := ⟨rfl, rfl, rfl, by decide +kernel, rfl, by decide +kernel, by decide +kernel⟩
abbrev N_is_whole : List Str := ["value", "least", "most"]
theorem sc_is_whole : FnScope N_is_whole ["value", "least", "most"] (defScope (top 6)) := ⟨rfl, rfl, rfl, by decide +kernel, rfl, by decide +kernel, by decide +kernel⟩
abbrev N_is_tower_block : List Str := ["value", "width", "weight"]
theorem sc_is_tower_block : FnScope N_is_tower_block ["value"] (defScope (top 13)) := ⟨rfl, rfl, rfl, by decide +kernel, rfl, by decide +kernel, by decide +kernel⟩
abbrev N_are_blocks : List Str := ["value", "block"]
theorem sc_are_blocks : FnScope N_are_blocks ["value"] (defScope (top 14)) := ⟨rfl, rfl, rfl, by decide +kernel, rfl, by decide +kernel, by decide +kernel⟩
abbrev N_check_blocks : List Str := ["value"]
theorem sc_check_blocks : FnScope N_check_blocks ["value"] (defScope (top 15)) := ⟨rfl, rfl, rfl, by decide +kernel, rfl, by decide +kernel, by decide +kernel⟩
abbrev N_reach : List Str := ["blocks"]
theorem sc_reach : FnScope N_reach ["blocks"] (defScope (top 21)) := ⟨rfl, rfl, rfl, by decide +kernel, rfl, by decide +kernel, by decide +kernel⟩
abbrev N_is_greater : List Str := ["first", "second"]
theorem sc_is_greater : FnScope N_is_greater ["first", "second"] (defScope (top 22)) := ⟨rfl, rfl, rfl, by decide +kernel, rfl, by decide +kernel, by decide +kernel⟩
abbrev N_best_sequence : List Str := ["blocks", "ascending", "best", "farthest", "sequence", "told"]
theorem sc_best_sequence : FnScope N_best_sequence ["blocks"] (defScope (top 23)) := ⟨rfl, rfl, rfl, by decide +kernel, rfl, by decide +kernel, by decide +kernel⟩
abbrev N_law : List Str := ["_law_script", "_law_state", "_law_blocks", "_law_again", "_law_best", "_law_first", "_law_order", "_law_some", "_law_number", "_law_own", "_law_more", "_law_same"]
theorem sc_law : FnScope N_law ["_law_script"] (defScope (top 29)) := ⟨rfl, rfl, rfl, by decide +kernel, rfl, by decide +kernel, by decide +kernel⟩
/-! ### the mirrors -/
def m_law_cell_at (ns : List Int) : List D → M D := fnD 4 (sSeq (sIf (dTest (dBin hLt (dVar 1) (dLenN ns (dAs [(dVar 0)])))) (sRet (dBin (hIxN ns) (dVar 0) (dVar 1))) sNil) (sSeq (sIf (dEqS ns (dVar 0)) (sRet (dC (.int 0))) sNil) (sSeq (sSet 2 (dBin (hIxN ns) (dVar 0) (dBin hMod (dVar 1) (dLenN ns (dAs [(dVar 0)]))))) (sSeq (sFor (iR1 (dAs [(dUnA hMin2 (dAs [(dBin hFdiv (dVar 1) (dLenN ns (dAs [(dVar 0)]))), (dC (.int 60))]))])) (gNm 3) (sSet 2 (dBin hFdiv (dVar 2) (dC (.int 1000003))))) (sRet (dBin hAdd (dBin hAdd (dBin hMul (dBin (hIxN ns) (dVar 0) (dBin hMod (dVar 1) (dLenN ns (dAs [(dVar 0)])))) (dC (.int 31))) (dVar 1)) (dBin hMul (dVar 2) (dC (.int 101)))))))))
def m_law_mixed (ns : List Int) : List D → M D := fnD 4 (sSeq (sSet 3 (dBin hMod (dBin hAdd (dBin hAdd (dBin hMul (dCall (m_law_cell_at ns) (dAs [(dVar 0), (dVar 1)])) (dC (.int 1103515245))) (dBin hMul (dC (.int 7919)) (dVar 1))) (dC (.int 12345))) (dC (.int 2147483647)))) (sRet (dBin hMod (dBin hMod (dBin hMod (dBin hPow (dVar 3) (dC (.int 5))) (dC (.int 2147483647))) (dC (.int 999983))) (dVar 2))))
def m_law_draw (ns : List Int) : List D → M D := fnD 3 (sSeq (sCell 1) (sRet (dCall (m_law_mixed ns) (dAs [(dVar 0), (dLenN ns (dAs [(dVar 1)])), (dVar 2)]))))
def m_law_orders (ns : List Int) : List D → M D := fnD 6 (sSeq (sSet 1 (dUnA hLst (dAs [(dUnA hTup (dAs []))]))) (sSeq (sFor (iR1 (dAs [(dVar 0)])) (gNm 2) (sSeq (sSet 3 (fLst (dUnA hLst (dAs [])))) (sSeq (sFor (iL (dVar 1)) (gNm 4) (sMut 3 hExtend (dAs [(dLc (iR1 (dAs [(dVar 0)])) [5] (gNm 5) (dTest (dBin hNotIn (dVar 5) (dVar 4))) (dBin hAdd (dVar 4) (dUnA hTup (dAs [(dVar 5)]))))]))) (sSet 1 (dVar 3))))) (sRet (dVar 1))))
def m_reduced (ns : List Int) : List D → M D := fnD 3 (sSeq (sSet 2 (dUnA hGcd (dAs [(dVar 0), (dVar 1)]))) (sRet (dUnA hTup (dAs [(dBin hFdiv (dVar 0) (dVar 2)), (dBin hFdiv (dVar 1) (dVar 2))]))))
def m_weights_from (ns : List Int) : List D → M D := fnL 4 (sRet (fLst (dLc (iR1 (dAs [(dUnA hLen (dAs [(dVar 0)]))])) [3] (gNm 3) dYes (dUnA hSum (dAs [(dLc (iT (dSl (dVar 0) (some (dVar 3)) none)) [1, 2] (gTp [(gNm 1), (gNm 2)]) dYes (dVar 2))])))))
def m_common_weight (ns : List Int) : List D → M D := fnD 3 (sSeq (sSet 1 (dC (.int 1))) (sSeq (sFor (iL (dCall (m_weights_from ns) (dAs [(dVar 0)]))) (gNm 2) (sSet 1 (dUnA hLcm2 (dAs [(dVar 1), (dVar 2)])))) (sRet (dVar 1))))
def m_lefts_toward (ns : List Int) : List D → M D := fnL 11 (sSeq (sSet 3 (dCall (m_weights_from ns) (dAs [(dVar 0)]))) (sSeq (sSet 4 (dC (.int 0))) (sSeq (sSet 5 (fLst (dUnA hLst (dAs [])))) (sSeq (sFor (iEnT (dAs [(dVar 0)])) (gTp [(gNm 6), (gTp [(gNm 7), (gNm 8)])]) (sSeq (sSet 9 (dBin hMul (dVar 7) (dVar 2))) (sSeq (sSet 10 (dIf (dTest (dBin hLt (dVar 6) (dVar 1))) (dVar 9) (dUn hNeg (dVar 9)))) (sSeq (sMut 5 hAppend (dAs [(dBin hSubI (dBin hSubI (dVar 4) (dBin hFdiv (dBin hMul (dVar 10) (dBin hSubI (dBin hIx (dVar 3) (dVar 6)) (dVar 8))) (dBin hIx (dVar 3) (dVar 6)))) (dVar 9))])) (sAug 4 hAddI (dBin hFdiv (dBin hMul (dVar 10) (dVar 8)) (dBin hIx (dVar 3) (dVar 6)))))))) (sRet (fLst (dVar 5)))))))
def m_farthest_tower (ns : List Int) : List D → M D := fnD 7 (sSeq (sSet 1 (dCall (m_common_weight ns) (dAs [(dVar 0)]))) (sSeq (sSet 2 (fLst (dUnA hLst (dAs [])))) (sSeq (sFor (iEnT (dAs [(dVar 0)])) (gTp [(gNm 3), (gNm 4)]) (sSeq (sSet 5 (dCall (m_lefts_toward ns) (dAs [(dVar 0), (dVar 3), (dVar 1)]))) (sMut 2 hAppend (dAs [(dUnA hTup (dAs [(dBin hAdd (dBin hIx (dVar 5) (dVar 3)) (dBin hMul (dBin hMul (dC (.int 2)) (dBin hIx (dVar 4) (dC (.int 0)))) (dVar 1))), (dVar 5)]))])))) (sSeq (sAsg (gTp [(gNm 6), (gNm 5)]) (dUnA hMaxD (dAs [(dVar 2)]))) (sRet (dUnA hTup (dAs [(dVar 6), (dVar 5), (dBin hMul (dC (.int 2)) (dVar 1))])))))))
def m_reach_of (ns : List Int) : List D → M D := fnD 4 (sSeq (sAsg (gTp [(gNm 1), (gNm 2), (gNm 3)]) (dCall (m_farthest_tower ns) (dAs [(dVar 0)]))) (sRet (dCall (m_reduced ns) (dAs [(dVar 1), (dVar 3)]))))
def m_is_tuple (ns : List Int) : List D → M D := fnD 2 (sRet (dAndV (dUn (hIsi "tuple") (dVar 0)) (dBin hEqD (dUnA hLen (dAs [(dVar 0)])) (dVar 1))))
def m_is_whole (ns : List Int) : List D → M D := fnD 3 (sSeq (sIf (dOr (dNot (dTest (dUn (hIsi "int") (dVar 0)))) (dTest (dUn (hIsi "bool") (dVar 0)))) (sRet (dC (.bool false))) sNil) (sRet (dChain hLe hLe (dVar 1) (dVar 0) (dVar 2))))
def m_is_tower_block (ns : List Int) : List D → M D := fnD 3 (sSeq (sIf (dNot (dTest (dCall (m_is_tuple ns) (dAs [(dVar 0), (dC (.int 2))])))) (sRet (dC (.bool false))) sNil) (sSeq (sAsg (gTp [(gNm 1), (gNm 2)]) (dVar 0)) (sRet (dAndV (dCall (m_is_whole ns) (dAs [(dVar 1), (dC (.int 1)), (dC k_MOST_WIDTH)])) (dCall (m_is_whole ns) (dAs [(dVar 2), (dC (.int 1)), (dC k_MOST_WEIGHT)]))))))
def m_are_blocks (ns : List Int) : List D → M D := fnD 2 (sSeq (sIf (dOr (dNot (dTest (dUn (hIsi "tuple") (dVar 0)))) (dNot (dTest (dChain hLe hLe (dC (.int 1)) (dUnA hLen (dAs [(dVar 0)])) (dC k_MOST_BLOCKS))))) (sRet (dC (.bool false))) sNil) (sRet (dUnA hAll (dAs [(dLc (iT (dVar 0)) [1] (gNm 1) dYes (dCall (m_is_tower_block ns) (dAs [(dVar 1)])))]))))
def m_check_blocks (ns : List Int) : List D → M D := fnD 1 (sIf (dNot (dTest (dCall (m_are_blocks ns) (dAs [(dVar 0)])))) sNever sNil)
def m_reach (ns : List Int) : List D → M D := fnD 1 (sSeq (sDrop (dCall (m_check_blocks ns) (dAs [(dVar 0)]))) (sRet (dCall (m_reach_of ns) (dAs [(dVar 0)]))))
def m_is_greater (ns : List Int) : List D → M D := fnD 2 (sRet (dBin hGt (dBin hMul (dBin hIx (dVar 0) (dC (.int 0))) (dBin hIx (dVar 1) (dC (.int 1)))) (dBin hMul (dBin hIx (dVar 1) (dC (.int 0))) (dBin hIx (dVar 0) (dC (.int 1))))))
def m_best_sequence (ns : List Int) : List D → M D := fnD 6 (sSeq (sDrop (dCall (m_check_blocks ns) (dAs [(dVar 0)]))) (sSeq (sSet 1 (dUnA hSortT (dAs [(dVar 0)]))) (sSeq (sSet 2 (dUnA hTupleOf (dAs [(dVar 1)]))) (sSeq (sSet 3 (dCall (m_reach_of ns) (dAs [(dVar 2)]))) (sSeq (sFor (iPmD (dVar 1)) (gNm 4) (sSeq (sSet 5 (dCall (m_reach_of ns) (dAs [(dVar 4)]))) (sIf (dTest (dCall (m_is_greater ns) (dAs [(dVar 5), (dVar 3)]))) (sSeq (sSet 2 (dVar 4)) (sSet 3 (dVar 5))) sNil))) (sRet (dUnA hTup (dAs [(dVar 3), (dVar 2)]))))))))
def s_law (ns : List Int) : SDen := (sSeq (sSet 2 (dUnA hTupleOf (dAs [(dLc (iR1 (dAs [(dC (.int 4))])) [3] (gNm 3) dYes (dUnA hTup (dAs [(dBin hAdd (dC (.int 1)) (dCall (m_law_draw ns) (dAs [(dVar 0), (dVar 1), (dC (.int 6))]))), (dBin hAdd (dC (.int 1)) (dCall (m_law_draw ns) (dAs [(dVar 0), (dVar 1), (dC (.int 6))])))])))]))) (sSeq (sSet 2 (dSl (dVar 2) none (some (dBin hAdd (dC (.int 1)) (dCall (m_law_draw ns) (dAs [(dVar 0), (dVar 1), (dC (.int 4))])))))) (sSeq (sAsg (gTp [(gNm 4), (gNm 5)]) (dUnA hTup (dAs [(dC .none), (dC .none)]))) (sSeq (sFor (iL (dCall (m_law_orders ns) (dAs [(dUnA hLen (dAs [(dVar 2)]))]))) (gNm 6) (sSeq (sSet 7 (dUnA hTupleOf (dAs [(dLc (iT (dVar 6)) [8] (gNm 8) dYes (dBin hIx (dVar 2) (dVar 8)))]))) (sSeq (sSet 9 (dCall (m_reach ns) (dAs [(dVar 7)]))) (sSeq (sSet 10 (dOrV (dBin hIsB (dVar 4) (dC .none)) (dBin hGtD (dBin hMul (dBin hIx (dVar 9) (dC (.int 0))) (dBin hIx (dVar 4) (dC (.int 1)))) (dBin hMul (dBin hIx (dVar 4) (dC (.int 0))) (dBin hIx (dVar 9) (dC (.int 1))))))) (sSeq (sSet 11 (dAndV (dBin hIsNotB (dVar 4) (dC .none)) (dBin hEqD (dBin hMul (dBin hIx (dVar 9) (dC (.int 0))) (dBin hIx (dVar 4) (dC (.int 1)))) (dBin hMul (dBin hIx (dVar 4) (dC (.int 0))) (dBin hIx (dVar 9) (dC (.int 1))))))) (sIf (dOr (dTest (dVar 10)) (dAnd (dTest (dVar 11)) (dTest (dBin hLtD (dVar 7) (dVar 5))))) (sPar 4 5 (dAs [(dVar 9), (dVar 7)])) sNil)))))) (sRet (dAndV (dBin hEqD (dCall (m_best_sequence ns) (dAs [(dVar 2)])) (dUnA hTup (dAs [(dVar 4), (dVar 5)]))) (dBin hEqD (dCall (m_best_sequence ns) (dAs [(dUn hRevT (dVar 2))])) (dUnA hTup (dAs [(dVar 4), (dVar 5)])))))))))
/-! ### the defs keep to them -/
section
variable {P : Program} {w : World} {K : PySem.W.Frag} {mg : Str → Option Value} {base : Heap}
set_option maxHeartbeats 4000000 in
theorem ok_law_cell_at {f : Addr} {fd : FuncData} (F : Fun K "_law_cell_at" "_law_cell_at" (top 25) f fd) (g : mg "_law_cell_at" = some (.ref f)) (b : Binds K fd ["_law_script", "_law_k"] []) (z_len : mg "len" = none) (z_min : mg "min" = none) (z_range : mg "range" = none) : CalD P w K mg base 1 "_law_cell_at" 2 m_law_cell_at := by
  have nd := sc_law_cell_at.nd
  refine ⟨f, fd, _, fun ns => ?_, g, F.kp, b⟩
  unfold m_law_cell_at
  exact fn_D (W' := []) F sc_law_cell_at ns (fun c cdv A outer s H E hr => (ssd_cons (W1 := []) (sd_if (td_cm cd_lt (dv 1) (ed_lenN (by rfl) z_len (ad_cons (dv 0) ad_nil))) (ssd_one (sd_retF (ed_itemN (dv 0) (dv 1)))) ssd_nil) (ssd_cons (W1 := []) (sd_if (td_eqS hr.units (dv 0)) (ssd_one (sd_retF ed_int)) ssd_nil) (ssd_cons (W1 := []) (sd_set (i := 2) nd (by rfl) (by first | exact .inl rfl | exact .inr rfl) (ed_itemN (dv 0) (ed_mod (dv 1) (ed_lenN (by rfl) z_len (ad_cons (dv 0) ad_nil))))) (ssd_cons (W1 := []) (sd_for PassesOwn.never rfl (idr1 z_range (ad_cons (ed_callB (call_min2 rfl) cb_min2 (by rfl) z_min (by decide +kernel) (ad_cons (ed_fdiv (dv 1) (ed_lenN (by rfl) z_len (ad_cons (dv 0) ad_nil))) (ad_cons ed_int ad_nil))) ad_nil)) (gdn 3 nd) (ssd_one (sd_set (i := 2) nd (by rfl) (by first | exact .inl rfl | exact .inr rfl) (ed_fdiv (dv 2) ed_int)))) (ssd_one (sd_retF (ed_add (ed_add (ed_mulD (ed_itemN (dv 0) (ed_mod (dv 1) (ed_lenN (by rfl) z_len (ad_cons (dv 0) ad_nil)))) ed_int) (dv 1)) (ed_mulD (dv 2) ed_int)))))))))
set_option maxHeartbeats 4000000 in
theorem ok_law_mixed {f : Addr} {fd : FuncData} (F : Fun K "_law_mixed" "_law_mixed" (top 26) f fd) (g : mg "_law_mixed" = some (.ref f)) (b : Binds K fd ["_law_script", "_law_k", "_law_many"] []) (C_law_cell_at : CalD P w K mg base 1 "_law_cell_at" 2 m_law_cell_at) : CalD P w K mg base 2 "_law_mixed" 3 m_law_mixed := by
  have nd := sc_law_mixed.nd
  refine ⟨f, fd, _, fun ns => ?_, g, F.kp, b⟩
  unfold m_law_mixed
  exact fn_D (W' := []) F sc_law_mixed ns (fun c cdv A outer s H E hr => (ssd_cons (W1 := []) (sd_set (i := 3) nd (by rfl) (by first | exact .inl rfl | exact .inr rfl) (ed_mod (ed_add (ed_add (ed_mulD (ed_calD C_law_cell_at (hr.mono (by decide)) (by rfl) (ad_cons (dv 0) (ad_cons (dv 1) ad_nil))) ed_int) (ed_mulD ed_int (dv 1))) ed_int) ed_int)) (ssd_one (sd_retF (ed_mod (ed_mod (ed_mod (ed_pow (dv 3) ed_int) ed_int) ed_int) (dv 2))))))
set_option maxHeartbeats 4000000 in
theorem ok_law_draw {f : Addr} {fd : FuncData} (F : Fun K "_law_draw" "_law_draw" (top 27) f fd) (g : mg "_law_draw" = some (.ref f)) (b : Binds K fd ["_law_script", "_law_state", "_law_many"] []) (C_law_mixed : CalD P w K mg base 2 "_law_mixed" 3 m_law_mixed) (z_len : mg "len" = none) : CalD P w K mg base 3 "_law_draw" 3 m_law_draw := by
  have nd := sc_law_draw.nd
  refine ⟨f, fd, _, fun ns => ?_, g, F.kp, b⟩
  unfold m_law_draw
  exact fn_D (W' := []) F sc_law_draw ns (fun c cdv A outer s H E hr => (ssd_cons (W1 := []) (sd_cell (i := 1) (by rfl) (by first | exact .inl rfl | exact .inr (.inl rfl))) (ssd_one (sd_retF (ed_calD C_law_mixed (hr.mono (by decide)) (by rfl) (ad_cons (dv 0) (ad_cons (ed_lenN (by rfl) z_len (ad_cons (dv 1) ad_nil)) (ad_cons (dv 2) ad_nil))))))))
set_option maxHeartbeats 4000000 in
theorem ok_law_orders {f : Addr} {fd : FuncData} (F : Fun K "_law_orders" "_law_orders" (top 28) f fd) (g : mg "_law_orders" = some (.ref f)) (b : Binds K fd ["_law_count"] []) (z_range : mg "range" = none) : CalD P w K mg base 1 "_law_orders" 1 m_law_orders := by
  have nd := sc_law_orders.nd
  refine ⟨f, fd, _, fun ns => ?_, g, F.kp, b⟩
  unfold m_law_orders
  exact fn_D (W' := []) F sc_law_orders ns (fun c cdv A outer s H E hr => (ssd_cons (W1 := []) (sd_set (i := 1) nd (by rfl) (by first | exact .inl rfl | exact .inr rfl) (ed_lst (ad_cons (ed_tup ad_nil) ad_nil))) (ssd_cons (W1 := []) (sd_for PassesOwn.never rfl (idr1 z_range (ad_cons (dv 0) ad_nil)) (gdn 2 nd) (ssd_cons (W1 := [3]) (sd_own (i := 3) nd (by rfl) (by first | exact .inl rfl | exact .inr rfl) (fd_lst ad_nil)) (ssd_cons (W1 := [3]) (sd_for PassesOwn.never rfl (id_list (dv 1)) (gdn 4 nd) (ssd_one (sd_extend (i := 3) (by rfl) (by first | exact .inl rfl | exact .inr (.inl rfl)) (ad_cons (ed_lc (own := [("_law_number", 5)]) rfl nd (idr1 z_range (ad_cons (dv 0) ad_nil)) (blkOk_by (N := N_law_orders) (sc := defScope (top 28)) (by decide +kernel)) (fun _ _ _ _ _ => (gdn 5 nd)) (fun _ _ _ _ _ => (tsd_one (td_cm cd_notIn (dv 5) (dv 4) (by rfl)))) (fun _ _ _ _ _ => (ed_add (dv 4) (ed_tup (ad_cons (dv 5) ad_nil))))) ad_nil)))) (ssd_one (sd_pre (W1 := []) (by decide) (sd_set (i := 1) nd (by rfl) (by first | exact .inl rfl | exact .inr rfl) (dv 3))))))) (ssd_one (sd_retF (dv 1))))))
set_option maxHeartbeats 4000000 in
theorem ok_reduced {f : Addr} {fd : FuncData} (F : Fun K "reduced" "reduced" (top 8) f fd) (g : mg "reduced" = some (.ref f)) (b : Binds K fd ["top", "bottom"] []) (y_gcd : mg "gcd" = some (.builtin "math.gcd")) : CalD P w K mg base 1 "reduced" 2 m_reduced := by
  have nd := sc_reduced.nd
  refine ⟨f, fd, _, fun ns => ?_, g, F.kp, b⟩
  unfold m_reduced
  exact fn_D (W' := []) F sc_reduced ns (fun c cdv A outer s H E hr => (ssd_cons (W1 := []) (sd_set (i := 2) nd (by rfl) (by first | exact .inl rfl | exact .inr rfl) (ed_callBf cr_gcd cb_gcd (by rfl) y_gcd (ad_cons (dv 0) (ad_cons (dv 1) ad_nil)))) (ssd_one (sd_retF (ed_tup (ad_cons (ed_fdiv (dv 0) (dv 2)) (ad_cons (ed_fdiv (dv 1) (dv 2)) ad_nil)))))))
set_option maxHeartbeats 4000000 in
theorem ok_weights_from {f : Addr} {fd : FuncData} (F : Fun K "weights_from" "weights_from" (top 16) f fd) (g : mg "weights_from" = some (.ref f)) (b : Binds K fd ["blocks"] []) (z_len : mg "len" = none) (z_range : mg "range" = none) (z_sum : mg "sum" = none) : CalF P w K mg base 1 "weights_from" 1 m_weights_from := by
  have nd := sc_weights_from.nd
  refine ⟨⟨f, fd, _, fun ns => ?_, g, F.kp, b⟩, fun ns ds n d n' h => fnL_list h⟩
  unfold m_weights_from
  exact fn_F (W' := []) F sc_weights_from ns (fun c cdv A outer s H E hr => (ssd_one (sd_pre (W1 := []) (fun _ h => nomatch h) (sd_retNew (fd_lc (own := [("k", 3)]) rfl nd (idr1 z_range (ad_cons (ed_callB call_len_seq cb_len (by rfl) z_len (by decide +kernel) (ad_cons (dv 0) ad_nil)) ad_nil)) (blkOk_by (N := N_weights_from) (sc := defScope (top 16)) (by decide +kernel)) (fun _ _ _ _ _ => (gdn 3 nd)) (fun _ _ _ _ _ => tsd_nil) (fun _ _ _ _ _ => (ed_callB (cr_sum rfl) cb_sum (by rfl) z_sum (by decide +kernel) (ad_cons (ed_lc (own := [("_", 1), ("weight", 2)]) rfl nd (id_tup (ed_slice (dv 0) (od_some (dv 3)) od_none)) (blkOk_by (by kernel_rfl)) (fun _ _ _ _ _ => (gd_tup rfl (gsd_cons (gdn 1 nd) (gsd_cons (gdn 2 nd) gsd_nil)))) (fun _ _ _ _ _ => tsd_nil) (fun _ _ _ _ _ => (dv 2))) ad_nil))))))))
set_option maxHeartbeats 4000000 in
theorem ok_common_weight {f : Addr} {fd : FuncData} (F : Fun K "common_weight" "common_weight" (top 17) f fd) (g : mg "common_weight" = some (.ref f)) (b : Binds K fd ["blocks"] []) (C_weights_from : CalF P w K mg base 1 "weights_from" 1 m_weights_from) (y_lcm : mg "lcm" = some (.builtin "math.lcm")) : CalD P w K mg base 2 "common_weight" 1 m_common_weight := by
  have nd := sc_common_weight.nd
  refine ⟨f, fd, _, fun ns => ?_, g, F.kp, b⟩
  unfold m_common_weight
  exact fn_D (W' := []) F sc_common_weight ns (fun c cdv A outer s H E hr => (ssd_cons (W1 := []) (sd_set (i := 1) nd (by rfl) (by first | exact .inl rfl | exact .inr rfl) ed_int) (ssd_cons (W1 := []) (sd_for PassesOwn.never rfl (id_list (ed_calF C_weights_from (hr.mono (by decide)) (by rfl) (ad_cons (dv 0) ad_nil))) (gdn 2 nd) (ssd_one (sd_set (i := 1) nd (by rfl) (by first | exact .inl rfl | exact .inr rfl) (ed_callBf cr_lcm2 cb_lcm2 (by rfl) y_lcm (ad_cons (dv 1) (ad_cons (dv 2) ad_nil)))))) (ssd_one (sd_retF (dv 1))))))
set_option maxHeartbeats 4000000 in
theorem ok_lefts_toward {f : Addr} {fd : FuncData} (F : Fun K "lefts_toward" "lefts_toward" (top 18) f fd) (g : mg "lefts_toward" = some (.ref f)) (b : Binds K fd ["blocks", "number", "common"] []) (C_weights_from : CalF P w K mg base 1 "weights_from" 1 m_weights_from) (z_enumerate : mg "enumerate" = none) : CalF P w K mg base 2 "lefts_toward" 3 m_lefts_toward := by
  have nd := sc_lefts_toward.nd
  refine ⟨⟨f, fd, _, fun ns => ?_, g, F.kp, b⟩, fun ns ds n d n' h => fnL_list h⟩
  unfold m_lefts_toward
  exact fn_F (W' := []) F sc_lefts_toward ns (fun c cdv A outer s H E hr => (ssd_cons (W1 := []) (sd_set (i := 3) nd (by rfl) (by first | exact .inl rfl | exact .inr rfl) (ed_calF C_weights_from (hr.mono (by decide)) (by rfl) (ad_cons (dv 0) ad_nil))) (ssd_cons (W1 := []) (sd_set (i := 4) nd (by rfl) (by first | exact .inl rfl | exact .inr rfl) ed_int) (ssd_cons (W1 := [5]) (sd_own (i := 5) nd (by rfl) (by first | exact .inl rfl | exact .inr rfl) (fd_lst ad_nil)) (ssd_cons (W1 := [5]) (sd_for PassesOwn.never rfl (id_enumT (by rfl) z_enumerate (ad_cons (dv 0) ad_nil)) (gd_tup rfl (gsd_cons (gdn 6 nd) (gsd_cons (gd_tup rfl (gsd_cons (gdn 7 nd) (gsd_cons (gdn 8 nd) gsd_nil))) gsd_nil))) (ssd_cons (W1 := [5]) (sd_set (i := 9) nd (by rfl) (by first | exact .inl rfl | exact .inr rfl) (ed_mulD (dv 7) (dv 2))) (ssd_cons (W1 := [5]) (sd_set (i := 10) nd (by rfl) (by first | exact .inl rfl | exact .inr rfl) (ed_if (td_cm cd_lt (dv 6) (dv 1)) (dv 9) (ed_neg (dv 9)))) (ssd_cons (W1 := [5]) (sd_append (i := 5) (by rfl) (by first | exact .inl rfl | exact .inr (.inl rfl)) (ad_cons (ed_sub (ed_sub (dv 4) (ed_fdiv (ed_mulD (dv 10) (ed_sub (ed_item (dv 3) (dv 6)) (dv 8))) (ed_item (dv 3) (dv 6)))) (dv 9)) ad_nil)) (ssd_one (sda_add 4 nd (ed_fdiv (ed_mulD (dv 10) (dv 8)) (ed_item (dv 3) (dv 6))))))))) (ssd_one (sd_retOwn (i := 5) (by rfl) (by first | exact .inl rfl | exact .inr (.inl rfl)))))))))
set_option maxHeartbeats 4000000 in
theorem ok_farthest_tower {f : Addr} {fd : FuncData} (F : Fun K "farthest_tower" "farthest_tower" (top 19) f fd) (g : mg "farthest_tower" = some (.ref f)) (b : Binds K fd ["blocks"] []) (C_common_weight : CalD P w K mg base 2 "common_weight" 1 m_common_weight) (C_lefts_toward : CalF P w K mg base 2 "lefts_toward" 3 m_lefts_toward) (z_enumerate : mg "enumerate" = none) (z_max : mg "max" = none) : CalD P w K mg base 3 "farthest_tower" 1 m_farthest_tower := by
  have nd := sc_farthest_tower.nd
  refine ⟨f, fd, _, fun ns => ?_, g, F.kp, b⟩
  unfold m_farthest_tower
  exact fn_D (W' := []) F sc_farthest_tower ns (fun c cdv A outer s H E hr => (ssd_cons (W1 := []) (sd_set (i := 1) nd (by rfl) (by first | exact .inl rfl | exact .inr rfl) (ed_calD C_common_weight (hr.mono (by decide)) (by rfl) (ad_cons (dv 0) ad_nil))) (ssd_cons (W1 := [2]) (sd_own (i := 2) nd (by rfl) (by first | exact .inl rfl | exact .inr rfl) (fd_lst ad_nil)) (ssd_cons (W1 := [2]) (sd_for PassesOwn.never rfl (id_enumT (by rfl) z_enumerate (ad_cons (dv 0) ad_nil)) (gd_tup rfl (gsd_cons (gdn 3 nd) (gsd_cons (gdn 4 nd) gsd_nil))) (ssd_cons (W1 := [2]) (sd_set (i := 5) nd (by rfl) (by first | exact .inl rfl | exact .inr rfl) (ed_calF C_lefts_toward (hr.mono (by decide)) (by rfl) (ad_cons (dv 0) (ad_cons (dv 3) (ad_cons (dv 1) ad_nil))))) (ssd_one (sd_append (i := 2) (by rfl) (by first | exact .inl rfl | exact .inr (.inl rfl)) (ad_cons (ed_tup (ad_cons (ed_add (ed_item (dv 5) (dv 3)) (ed_mulD (ed_mulD ed_int (ed_item (dv 4) ed_int)) (dv 1))) (ad_cons (dv 5) ad_nil))) ad_nil))))) (ssd_cons (W1 := []) (sd_pre (W1 := []) (by decide) (sd_asg (ed_callB (cr_maxD rfl (un65 hr)) cb_maxD (by rfl) z_max (by decide +kernel) (ad_cons (dv 2) ad_nil)) (gd_tup rfl (gsd_cons (gdn 6 nd) (gsd_cons (gdn 5 nd) gsd_nil))))) (ssd_one (sd_retF (ed_tup (ad_cons (dv 6) (ad_cons (dv 5) (ad_cons (ed_mulD ed_int (dv 1)) ad_nil)))))))))))
set_option maxHeartbeats 4000000 in
theorem ok_reach_of {f : Addr} {fd : FuncData} (F : Fun K "reach_of" "reach_of" (top 20) f fd) (g : mg "reach_of" = some (.ref f)) (b : Binds K fd ["blocks"] []) (C_farthest_tower : CalD P w K mg base 3 "farthest_tower" 1 m_farthest_tower) (C_reduced : CalD P w K mg base 1 "reduced" 2 m_reduced) : CalD P w K mg base 4 "reach_of" 1 m_reach_of := by
  have nd := sc_reach_of.nd
  refine ⟨f, fd, _, fun ns => ?_, g, F.kp, b⟩
  unfold m_reach_of
  exact fn_D (W' := []) F sc_reach_of ns (fun c cdv A outer s H E hr => (ssd_cons (W1 := []) (sd_asg (ed_calD C_farthest_tower (hr.mono (by decide)) (by rfl) (ad_cons (dv 0) ad_nil)) (gd_tup rfl (gsd_cons (gdn 1 nd) (gsd_cons (gdn 2 nd) (gsd_cons (gdn 3 nd) gsd_nil))))) (ssd_one (sd_retF (ed_calD C_reduced (hr.mono (by decide)) (by rfl) (ad_cons (dv 1) (ad_cons (dv 3) ad_nil)))))))
set_option maxHeartbeats 4000000 in
theorem ok_is_tuple {f : Addr} {fd : FuncData} (F : Fun K "is_tuple" "is_tuple" (top 7) f fd) (g : mg "is_tuple" = some (.ref f)) (b : Binds K fd ["value", "many"] []) (z_isinstance : mg "isinstance" = none) (z_tuple : mg "tuple" = none) (z_len : mg "len" = none) : CalD P w K mg base 1 "is_tuple" 2 m_is_tuple := by
  have nd := sc_is_tuple.nd
  refine ⟨f, fd, _, fun ns => ?_, g, F.kp, b⟩
  unfold m_is_tuple
  exact fn_D (W' := []) F sc_is_tuple ns (fun c cdv A outer s H E hr => (ssd_one (sd_retF (ed_and (ed_isi (by rfl) z_isinstance (by rfl) z_tuple (by decide +kernel) (dv 0)) (ed_one (ed_cm (cd_eq hr.units) (ed_callB call_len_seq cb_len (by rfl) z_len (by decide +kernel) (ad_cons (dv 0) ad_nil)) (dv 1)))))))
set_option maxHeartbeats 4000000 in
theorem ok_is_whole {f : Addr} {fd : FuncData} (F : Fun K "is_whole" "is_whole" (top 6) f fd) (g : mg "is_whole" = some (.ref f)) (b : Binds K fd ["value", "least", "most"] []) (z_isinstance : mg "isinstance" = none) (z_int : mg "int" = none) (z_bool : mg "bool" = none) : CalD P w K mg base 1 "is_whole" 3 m_is_whole := by
  have nd := sc_is_whole.nd
  refine ⟨f, fd, _, fun ns => ?_, g, F.kp, b⟩
  unfold m_is_whole
  exact fn_D (W' := []) F sc_is_whole ns (fun c cdv A outer s H E hr => (ssd_cons (W1 := []) (sd_if (td_pw (wd_or (td_not (td_val (ed_isi (by rfl) z_isinstance (by rfl) z_int (by decide +kernel) (dv 0)))) (wd_or1 (td_val (ed_isi (by rfl) z_isinstance (by rfl) z_bool (by decide +kernel) (dv 0)))))) (ssd_one (sd_retF ed_bl)) ssd_nil) (ssd_one (sd_retF (ed_chain cd_le cd_le (dv 1) (dv 0) (dv 2))))))
set_option maxHeartbeats 4000000 in
theorem ok_is_tower_block {f : Addr} {fd : FuncData} (F : Fun K "is_tower_block" "is_tower_block" (top 13) f fd) (g : mg "is_tower_block" = some (.ref f)) (b : Binds K fd ["value"] []) (C_is_tuple : CalD P w K mg base 1 "is_tuple" 2 m_is_tuple) (C_is_whole : CalD P w K mg base 1 "is_whole" 3 m_is_whole) (K_MOST_WIDTH : KonD K mg "MOST_WIDTH" k_MOST_WIDTH) (K_MOST_WEIGHT : KonD K mg "MOST_WEIGHT" k_MOST_WEIGHT) : CalD P w K mg base 2 "is_tower_block" 1 m_is_tower_block := by
  have nd := sc_is_tower_block.nd
  refine ⟨f, fd, _, fun ns => ?_, g, F.kp, b⟩
  unfold m_is_tower_block
  exact fn_D (W' := []) F sc_is_tower_block ns (fun c cdv A outer s H E hr => (ssd_cons (W1 := []) (sd_if (td_not (td_val (ed_calD C_is_tuple (hr.mono (by decide)) (by rfl) (ad_cons (dv 0) (ad_cons ed_int ad_nil))))) (ssd_one (sd_retF ed_bl)) ssd_nil) (ssd_cons (W1 := []) (sd_asg (dv 0) (gd_tup rfl (gsd_cons (gdn 1 nd) (gsd_cons (gdn 2 nd) gsd_nil)))) (ssd_one (sd_retF (ed_and (ed_calD C_is_whole (hr.mono (by decide)) (by rfl) (ad_cons (dv 1) (ad_cons ed_int (ad_cons (K_MOST_WIDTH.ed (by rfl)) ad_nil)))) (ed_one (ed_calD C_is_whole (hr.mono (by decide)) (by rfl) (ad_cons (dv 2) (ad_cons ed_int (ad_cons (K_MOST_WEIGHT.ed (by rfl)) ad_nil)))))))))))
set_option maxHeartbeats 4000000 in
theorem ok_are_blocks {f : Addr} {fd : FuncData} (F : Fun K "are_blocks" "are_blocks" (top 14) f fd) (g : mg "are_blocks" = some (.ref f)) (b : Binds K fd ["value"] []) (C_is_tower_block : CalD P w K mg base 2 "is_tower_block" 1 m_is_tower_block) (z_isinstance : mg "isinstance" = none) (z_tuple : mg "tuple" = none) (z_len : mg "len" = none) (z_all : mg "all" = none) (K_MOST_BLOCKS : KonD K mg "MOST_BLOCKS" k_MOST_BLOCKS) : CalD P w K mg base 3 "are_blocks" 1 m_are_blocks := by
  have nd := sc_are_blocks.nd
  refine ⟨f, fd, _, fun ns => ?_, g, F.kp, b⟩
  unfold m_are_blocks
  exact fn_D (W' := []) F sc_are_blocks ns (fun c cdv A outer s H E hr => (ssd_cons (W1 := []) (sd_if (td_pw (wd_or (td_not (td_val (ed_isi (by rfl) z_isinstance (by rfl) z_tuple (by decide +kernel) (dv 0)))) (wd_or1 (td_not (td_chain cd_le cd_le ed_int (ed_callB call_len_seq cb_len (by rfl) z_len (by decide +kernel) (ad_cons (dv 0) ad_nil)) (K_MOST_BLOCKS.ed (by rfl))))))) (ssd_one (sd_retF ed_bl)) ssd_nil) (ssd_one (sd_retF (ed_callB (cr_all rfl) cb_all (by rfl) z_all (by decide +kernel) (ad_cons (ed_lc (own := [("block", 1)]) rfl nd (id_tup (dv 0)) (blkOk_by (N := N_are_blocks) (sc := defScope (top 14)) (by decide +kernel)) (fun _ _ _ _ _ => (gdn 1 nd)) (fun _ _ _ _ _ => tsd_nil) (fun _ _ _ _ _ => (ed_calD C_is_tower_block (hr.mono (by decide)) (by rfl) (ad_cons (dv 1) ad_nil)))) ad_nil))))))
set_option maxHeartbeats 4000000 in
theorem ok_check_blocks {f : Addr} {fd : FuncData} (F : Fun K "check_blocks" "check_blocks" (top 15) f fd) (g : mg "check_blocks" = some (.ref f)) (b : Binds K fd ["value"] []) (C_are_blocks : CalD P w K mg base 3 "are_blocks" 1 m_are_blocks) : CalD P w K mg base 4 "check_blocks" 1 m_check_blocks := by
  have nd := sc_check_blocks.nd
  refine ⟨f, fd, _, fun ns => ?_, g, F.kp, b⟩
  unfold m_check_blocks
  exact fn_D (W' := []) F sc_check_blocks ns (fun c cdv A outer s H E hr => (ssd_one (sd_if (td_not (td_val (ed_calD C_are_blocks (hr.mono (by decide)) (by rfl) (ad_cons (dv 0) ad_nil)))) (ssd_one sd_never) ssd_nil)))
set_option maxHeartbeats 4000000 in
theorem ok_reach {f : Addr} {fd : FuncData} (F : Fun K "reach" "reach" (top 21) f fd) (g : mg "reach" = some (.ref f)) (b : Binds K fd ["blocks"] []) (C_check_blocks : CalD P w K mg base 4 "check_blocks" 1 m_check_blocks) (C_reach_of : CalD P w K mg base 4 "reach_of" 1 m_reach_of) : CalD P w K mg base 5 "reach" 1 m_reach := by
  have nd := sc_reach.nd
  refine ⟨f, fd, _, fun ns => ?_, g, F.kp, b⟩
  unfold m_reach
  exact fn_D (W' := []) F sc_reach ns (fun c cdv A outer s H E hr => (ssd_cons (W1 := []) (sd_expr (ed_calD C_check_blocks (hr.mono (by decide)) (by rfl) (ad_cons (dv 0) ad_nil))) (ssd_one (sd_retF (ed_calD C_reach_of (hr.mono (by decide)) (by rfl) (ad_cons (dv 0) ad_nil))))))
set_option maxHeartbeats 4000000 in
theorem ok_is_greater {f : Addr} {fd : FuncData} (F : Fun K "is_greater" "is_greater" (top 22) f fd) (g : mg "is_greater" = some (.ref f)) (b : Binds K fd ["first", "second"] []) : CalD P w K mg base 1 "is_greater" 2 m_is_greater := by
  have nd := sc_is_greater.nd
  refine ⟨f, fd, _, fun ns => ?_, g, F.kp, b⟩
  unfold m_is_greater
  exact fn_D (W' := []) F sc_is_greater ns (fun c cdv A outer s H E hr => (ssd_one (sd_retF (ed_cm cd_gt (ed_mulD (ed_item (dv 0) ed_int) (ed_item (dv 1) ed_int)) (ed_mulD (ed_item (dv 1) ed_int) (ed_item (dv 0) ed_int))))))
set_option maxHeartbeats 4000000 in
theorem ok_best_sequence {f : Addr} {fd : FuncData} (F : Fun K "best_sequence" "best_sequence" (top 23) f fd) (g : mg "best_sequence" = some (.ref f)) (b : Binds K fd ["blocks"] []) (C_check_blocks : CalD P w K mg base 4 "check_blocks" 1 m_check_blocks) (C_reach_of : CalD P w K mg base 4 "reach_of" 1 m_reach_of) (C_is_greater : CalD P w K mg base 1 "is_greater" 2 m_is_greater) (z_sorted : mg "sorted" = none) (z_tuple : mg "tuple" = none) (y_permutations : mg "permutations" = some (.type "itertools.permutations")) : CalD P w K mg base 5 "best_sequence" 1 m_best_sequence := by
  have nd := sc_best_sequence.nd
  refine ⟨f, fd, _, fun ns => ?_, g, F.kp, b⟩
  unfold m_best_sequence
  exact fn_D (W' := []) F sc_best_sequence ns (fun c cdv A outer s H E hr => (ssd_cons (W1 := []) (sd_expr (ed_calD C_check_blocks (hr.mono (by decide)) (by rfl) (ad_cons (dv 0) ad_nil))) (ssd_cons (W1 := []) (sd_set (i := 1) nd (by rfl) (by first | exact .inl rfl | exact .inr rfl) (ed_sortedT hr.units (by rfl) z_sorted (ad_cons (dv 0) ad_nil))) (ssd_cons (W1 := []) (sd_set (i := 2) nd (by rfl) (by first | exact .inl rfl | exact .inr rfl) (ed_callTy call_tuple_of cb_tuple (by rfl) z_tuple (by decide +kernel) (ad_cons (dv 1) ad_nil))) (ssd_cons (W1 := []) (sd_set (i := 3) nd (by rfl) (by first | exact .inl rfl | exact .inr rfl) (ed_calD C_reach_of (hr.mono (by decide)) (by rfl) (ad_cons (dv 2) ad_nil))) (ssd_cons (W1 := []) (sd_for PassesOwn.never rfl (id_pm rfl (by rfl) y_permutations (dv 1)) (gdn 4 nd) (ssd_cons (W1 := []) (sd_set (i := 5) nd (by rfl) (by first | exact .inl rfl | exact .inr rfl) (ed_calD C_reach_of (hr.mono (by decide)) (by rfl) (ad_cons (dv 4) ad_nil))) (ssd_one (sd_if (td_val (ed_calD C_is_greater (hr.mono (by decide)) (by rfl) (ad_cons (dv 5) (ad_cons (dv 3) ad_nil)))) (ssd_cons (W1 := []) (sd_set (i := 2) nd (by rfl) (by first | exact .inl rfl | exact .inr rfl) (dv 4)) (ssd_one (sd_set (i := 3) nd (by rfl) (by first | exact .inl rfl | exact .inr rfl) (dv 5)))) ssd_nil)))) (ssd_one (sd_retF (ed_tup (ad_cons (dv 3) (ad_cons (dv 2) ad_nil)))))))))))
set_option maxHeartbeats 4000000 in
theorem ok_law {f : Addr} {fd : FuncData} (F : Fun K "law" "law" (top 29) f fd) (C_law_draw : CalD P w K mg base 3 "_law_draw" 3 m_law_draw) (C_law_orders : CalD P w K mg base 1 "_law_orders" 1 m_law_orders) (C_reach : CalD P w K mg base 5 "reach" 1 m_reach) (C_best_sequence : CalD P w K mg base 5 "best_sequence" 1 m_best_sequence) (z_range : mg "range" = none) (z_tuple : mg "tuple" = none) (z_len : mg "len" = none) (true_law : ∀ ns : List Int, ns.length ≤ 63 → ∃ n', s_law ns ((some mkSc :: List.replicate 11 none).set 1 (some mkSt)) 0 = some (.rt (.bool true), n')) : FnOk P w K mg base CX0 7 f fd ["_law_script"] (spLaw K) := by
  have nd := sc_law.nd
  refine F.ok sc_law (fun vs H Q E h => ?_) (fun cdv A outer s H vs Q E hr h => ?_)
  · obtain ⟨a, ns, rfl, _⟩ := h
    rfl
  · obtain ⟨a, ns, rfl, hS, hlen, q⟩ := h
    obtain ⟨n', hn⟩ := true_law ns hlen
    unfold s_law at hn
    exact ⟨_, pss_law (wx := fun _ _ _ _ => False) (i := 1) (W' := []) nd (by rfl) (by first | exact .inl rfl | exact .inr rfl) [] 0 (by rfl) (by first | exact .inl rfl | exact .inr rfl) (fun c => (ssd_cons (W1 := []) (sd_set (i := 2) nd (by rfl) (by first | exact .inl rfl | exact .inr rfl) (ed_callTy call_tuple_of cb_tuple (by rfl) z_tuple (by decide +kernel) (ad_cons (ed_lc (own := [("_law_again", 3)]) rfl nd (idr1 z_range (ad_cons ed_int ad_nil)) (blkOk_by (N := N_law) (sc := defScope (top 29)) (by decide +kernel)) (fun _ _ _ _ _ => (gdn 3 nd)) (fun _ _ _ _ _ => tsd_nil) (fun _ _ _ _ _ => (ed_tup (ad_cons (ed_add ed_int (ed_calD C_law_draw (hr.mono (by decide)) (by rfl) (ad_cons (dv 0) (ad_cons (dv 1) (ad_cons ed_int ad_nil))))) (ad_cons (ed_add ed_int (ed_calD C_law_draw (hr.mono (by decide)) (by rfl) (ad_cons (dv 0) (ad_cons (dv 1) (ad_cons ed_int ad_nil))))) ad_nil))))) ad_nil))) (ssd_cons (W1 := []) (sd_set (i := 2) nd (by rfl) (by first | exact .inl rfl | exact .inr rfl) (ed_slice (dv 2) od_none (od_some (ed_add ed_int (ed_calD C_law_draw (hr.mono (by decide)) (by rfl) (ad_cons (dv 0) (ad_cons (dv 1) (ad_cons ed_int ad_nil)))))))) (ssd_cons (W1 := []) (sd_asg (ed_tup (ad_cons ed_non (ad_cons ed_non ad_nil))) (gd_tup rfl (gsd_cons (gdn 4 nd) (gsd_cons (gdn 5 nd) gsd_nil)))) (ssd_cons (W1 := []) (sd_for PassesOwn.never rfl (id_list (ed_calD C_law_orders (hr.mono (by decide)) (by rfl) (ad_cons (ed_callB call_len_seq cb_len (by rfl) z_len (by decide +kernel) (ad_cons (dv 2) ad_nil)) ad_nil))) (gdn 6 nd) (ssd_cons (W1 := []) (sd_set (i := 7) nd (by rfl) (by first | exact .inl rfl | exact .inr rfl) (ed_callTy call_tuple_of cb_tuple (by rfl) z_tuple (by decide +kernel) (ad_cons (ed_lc (own := [("_law_number", 8)]) rfl nd (id_tup (dv 6)) (blkOk_by (N := N_law) (sc := defScope (top 29)) (by decide +kernel)) (fun _ _ _ _ _ => (gdn 8 nd)) (fun _ _ _ _ _ => tsd_nil) (fun _ _ _ _ _ => (ed_item (dv 2) (dv 8)))) ad_nil))) (ssd_cons (W1 := []) (sd_set (i := 9) nd (by rfl) (by first | exact .inl rfl | exact .inr rfl) (ed_calD C_reach (hr.mono (by decide)) (by rfl) (ad_cons (dv 7) ad_nil))) (ssd_cons (W1 := []) (sd_set (i := 10) nd (by rfl) (by first | exact .inl rfl | exact .inr rfl) (ed_or (ed_cm cd_is (dv 4) ed_non) (ed_one (ed_cm (cd_gtD hr.units) (ed_mulD (ed_item (dv 9) ed_int) (ed_item (dv 4) ed_int)) (ed_mulD (ed_item (dv 4) ed_int) (ed_item (dv 9) ed_int)))))) (ssd_cons (W1 := []) (sd_set (i := 11) nd (by rfl) (by first | exact .inl rfl | exact .inr rfl) (ed_and (ed_cm cd_isNot (dv 4) ed_non) (ed_one (ed_cm (cd_eq hr.units) (ed_mulD (ed_item (dv 9) ed_int) (ed_item (dv 4) ed_int)) (ed_mulD (ed_item (dv 4) ed_int) (ed_item (dv 9) ed_int)))))) (ssd_one (sd_if (td_pw (wd_or (td_val (dv 10)) (wd_or1 (td_pw (wd_and (td_val (dv 11)) (wd_and1 (td_cm (cd_ltD hr.units) (dv 7) (dv 5)))))))) (ssd_one (sdp 4 5 nd (ad_cons (dv 9) (ad_cons (dv 7) ad_nil)))) ssd_nil))))))) (ssd_one (sd_retF (ed_and (ed_cm (cd_eq hr.units) (ed_calD C_best_sequence (hr.mono (by decide)) (by rfl) (ad_cons (dv 2) ad_nil)) (ed_tup (ad_cons (dv 4) (ad_cons (dv 5) ad_nil)))) (ed_one (ed_cm (cd_eq hr.units) (ed_calD C_best_sequence (hr.mono (by decide)) (by rfl) (ad_cons (ed_revT (dv 2)) ad_nil)) (ed_tup (ad_cons (dv 4) (ad_cons (dv 5) ad_nil))))))))))))), a, rfl, by decide, (show 1 < N_law.length from by decide), hS, n', hn, q⟩
end
/-! ### what the top has written -/
set_option maxHeartbeats 8000000 in
theorem all_mk {l : PySem.W.OpenLaw} {w : World} {K : PySem.W.Frag} {h : Heap} {mg : Str → Option Value} {fa f0 f1 f2 f3 f4 f5 f6 f7 f8 f9 f10 f11 f12 f13 f14 f15 f16 f17 f18 : Addr} (X : K.In h) (G : h.Ns mainGlobals mg) (hfa : mg "law" = some (.ref fa)) {od0 an0 od1 an1 od2 an2 od3 an3 od4 an4 od5 an5 od6 an6 od7 an7 od8 an8 od9 an9 od10 an10 od11 an11 od12 an12 od13 an13 od14 an14 od15 an15 od16 an16 od17 an17 od18 an18 : Option Addr} {sl0 sl1 sl2 sl3 sl4 sl5 sl6 sl7 sl8 sl9 sl10 sl11 sl12 sl13 sl14 sl15 sl16 sl17 sl18 : Array (Option Value)} {oc0 kV0 dc0 pm0 cd0 ct0 oc1 kV1 dc1 pm1 cd1 ct1 oc2 kV2 dc2 pm2 cd2 ct2 oc3 kV3 dc3 pm3 cd3 ct3 oc4 kV4 dc4 pm4 cd4 ct4 oc5 kV5 dc5 pm5 cd5 ct5 oc6 kV6 dc6 pm6 cd6 ct6 oc7 kV7 dc7 pm7 cd7 ct7 oc8 kV8 dc8 pm8 cd8 ct8 oc9 kV9 dc9 pm9 cd9 ct9 oc10 kV10 dc10 pm10 cd10 ct10 oc11 kV11 dc11 pm11 cd11 ct11 oc12 kV12 dc12 pm12 cd12 ct12 oc13 kV13 dc13 pm13 cd13 ct13 oc14 kV14 dc14 pm14 cd14 ct14 oc15 kV15 dc15 pm15 cd15 ct15 oc16 kV16 dc16 pm16 cd16 ct16 oc17 kV17 dc17 pm17 cd17 ct17 oc18 kV18 dc18 pm18 cd18 ct18 : Value}
    (a0 : PySem.W.nsIn K mainGlobals "_law_cell_at" = some (some (.ref f0)))
    (l0 : K.lookup f0 = some ⟨oc0, od0, .func (PySem.W.fnOf "_law_cell_at" "_law_cell_at" (defArgs (top 25)) (defBody (top 25)) (defScope (top 25)) .none kV0 dc0 pm0 an0 cd0 ct0), sl0⟩) (c0 : PySem.W.codeIn K cd0 "_law_cell_at" = true) (k0 : PySem.W.keepIn K (.ref f0) = true)
    (a1 : PySem.W.nsIn K mainGlobals "_law_mixed" = some (some (.ref f1)))
    (l1 : K.lookup f1 = some ⟨oc1, od1, .func (PySem.W.fnOf "_law_mixed" "_law_mixed" (defArgs (top 26)) (defBody (top 26)) (defScope (top 26)) .none kV1 dc1 pm1 an1 cd1 ct1), sl1⟩) (c1 : PySem.W.codeIn K cd1 "_law_mixed" = true) (k1 : PySem.W.keepIn K (.ref f1) = true)
    (a2 : PySem.W.nsIn K mainGlobals "_law_draw" = some (some (.ref f2)))
    (l2 : K.lookup f2 = some ⟨oc2, od2, .func (PySem.W.fnOf "_law_draw" "_law_draw" (defArgs (top 27)) (defBody (top 27)) (defScope (top 27)) .none kV2 dc2 pm2 an2 cd2 ct2), sl2⟩) (c2 : PySem.W.codeIn K cd2 "_law_draw" = true) (k2 : PySem.W.keepIn K (.ref f2) = true)
    (a3 : PySem.W.nsIn K mainGlobals "_law_orders" = some (some (.ref f3)))
    (l3 : K.lookup f3 = some ⟨oc3, od3, .func (PySem.W.fnOf "_law_orders" "_law_orders" (defArgs (top 28)) (defBody (top 28)) (defScope (top 28)) .none kV3 dc3 pm3 an3 cd3 ct3), sl3⟩) (c3 : PySem.W.codeIn K cd3 "_law_orders" = true) (k3 : PySem.W.keepIn K (.ref f3) = true)
    (a4 : PySem.W.nsIn K mainGlobals "reduced" = some (some (.ref f4)))
    (l4 : K.lookup f4 = some ⟨oc4, od4, .func (PySem.W.fnOf "reduced" "reduced" (defArgs (top 8)) (defBody (top 8)) (defScope (top 8)) .none kV4 dc4 pm4 an4 cd4 ct4), sl4⟩) (c4 : PySem.W.codeIn K cd4 "reduced" = true) (k4 : PySem.W.keepIn K (.ref f4) = true)
    (a5 : PySem.W.nsIn K mainGlobals "weights_from" = some (some (.ref f5)))
    (l5 : K.lookup f5 = some ⟨oc5, od5, .func (PySem.W.fnOf "weights_from" "weights_from" (defArgs (top 16)) (defBody (top 16)) (defScope (top 16)) .none kV5 dc5 pm5 an5 cd5 ct5), sl5⟩) (c5 : PySem.W.codeIn K cd5 "weights_from" = true) (k5 : PySem.W.keepIn K (.ref f5) = true)
    (a6 : PySem.W.nsIn K mainGlobals "common_weight" = some (some (.ref f6)))
    (l6 : K.lookup f6 = some ⟨oc6, od6, .func (PySem.W.fnOf "common_weight" "common_weight" (defArgs (top 17)) (defBody (top 17)) (defScope (top 17)) .none kV6 dc6 pm6 an6 cd6 ct6), sl6⟩) (c6 : PySem.W.codeIn K cd6 "common_weight" = true) (k6 : PySem.W.keepIn K (.ref f6) = true)
    (a7 : PySem.W.nsIn K mainGlobals "lefts_toward" = some (some (.ref f7)))
    (l7 : K.lookup f7 = some ⟨oc7, od7, .func (PySem.W.fnOf "lefts_toward" "lefts_toward" (defArgs (top 18)) (defBody (top 18)) (defScope (top 18)) .none kV7 dc7 pm7 an7 cd7 ct7), sl7⟩) (c7 : PySem.W.codeIn K cd7 "lefts_toward" = true) (k7 : PySem.W.keepIn K (.ref f7) = true)
    (a8 : PySem.W.nsIn K mainGlobals "farthest_tower" = some (some (.ref f8)))
    (l8 : K.lookup f8 = some ⟨oc8, od8, .func (PySem.W.fnOf "farthest_tower" "farthest_tower" (defArgs (top 19)) (defBody (top 19)) (defScope (top 19)) .none kV8 dc8 pm8 an8 cd8 ct8), sl8⟩) (c8 : PySem.W.codeIn K cd8 "farthest_tower" = true) (k8 : PySem.W.keepIn K (.ref f8) = true)
    (a9 : PySem.W.nsIn K mainGlobals "reach_of" = some (some (.ref f9)))
    (l9 : K.lookup f9 = some ⟨oc9, od9, .func (PySem.W.fnOf "reach_of" "reach_of" (defArgs (top 20)) (defBody (top 20)) (defScope (top 20)) .none kV9 dc9 pm9 an9 cd9 ct9), sl9⟩) (c9 : PySem.W.codeIn K cd9 "reach_of" = true) (k9 : PySem.W.keepIn K (.ref f9) = true)
    (a10 : PySem.W.nsIn K mainGlobals "is_tuple" = some (some (.ref f10)))
    (l10 : K.lookup f10 = some ⟨oc10, od10, .func (PySem.W.fnOf "is_tuple" "is_tuple" (defArgs (top 7)) (defBody (top 7)) (defScope (top 7)) .none kV10 dc10 pm10 an10 cd10 ct10), sl10⟩) (c10 : PySem.W.codeIn K cd10 "is_tuple" = true) (k10 : PySem.W.keepIn K (.ref f10) = true)
    (a11 : PySem.W.nsIn K mainGlobals "is_whole" = some (some (.ref f11)))
    (l11 : K.lookup f11 = some ⟨oc11, od11, .func (PySem.W.fnOf "is_whole" "is_whole" (defArgs (top 6)) (defBody (top 6)) (defScope (top 6)) .none kV11 dc11 pm11 an11 cd11 ct11), sl11⟩) (c11 : PySem.W.codeIn K cd11 "is_whole" = true) (k11 : PySem.W.keepIn K (.ref f11) = true)
    (a12 : PySem.W.nsIn K mainGlobals "is_tower_block" = some (some (.ref f12)))
    (l12 : K.lookup f12 = some ⟨oc12, od12, .func (PySem.W.fnOf "is_tower_block" "is_tower_block" (defArgs (top 13)) (defBody (top 13)) (defScope (top 13)) .none kV12 dc12 pm12 an12 cd12 ct12), sl12⟩) (c12 : PySem.W.codeIn K cd12 "is_tower_block" = true) (k12 : PySem.W.keepIn K (.ref f12) = true)
    (a13 : PySem.W.nsIn K mainGlobals "are_blocks" = some (some (.ref f13)))
    (l13 : K.lookup f13 = some ⟨oc13, od13, .func (PySem.W.fnOf "are_blocks" "are_blocks" (defArgs (top 14)) (defBody (top 14)) (defScope (top 14)) .none kV13 dc13 pm13 an13 cd13 ct13), sl13⟩) (c13 : PySem.W.codeIn K cd13 "are_blocks" = true) (k13 : PySem.W.keepIn K (.ref f13) = true)
    (a14 : PySem.W.nsIn K mainGlobals "check_blocks" = some (some (.ref f14)))
    (l14 : K.lookup f14 = some ⟨oc14, od14, .func (PySem.W.fnOf "check_blocks" "check_blocks" (defArgs (top 15)) (defBody (top 15)) (defScope (top 15)) .none kV14 dc14 pm14 an14 cd14 ct14), sl14⟩) (c14 : PySem.W.codeIn K cd14 "check_blocks" = true) (k14 : PySem.W.keepIn K (.ref f14) = true)
    (a15 : PySem.W.nsIn K mainGlobals "reach" = some (some (.ref f15)))
    (l15 : K.lookup f15 = some ⟨oc15, od15, .func (PySem.W.fnOf "reach" "reach" (defArgs (top 21)) (defBody (top 21)) (defScope (top 21)) .none kV15 dc15 pm15 an15 cd15 ct15), sl15⟩) (c15 : PySem.W.codeIn K cd15 "reach" = true) (k15 : PySem.W.keepIn K (.ref f15) = true)
    (a16 : PySem.W.nsIn K mainGlobals "is_greater" = some (some (.ref f16)))
    (l16 : K.lookup f16 = some ⟨oc16, od16, .func (PySem.W.fnOf "is_greater" "is_greater" (defArgs (top 22)) (defBody (top 22)) (defScope (top 22)) .none kV16 dc16 pm16 an16 cd16 ct16), sl16⟩) (c16 : PySem.W.codeIn K cd16 "is_greater" = true) (k16 : PySem.W.keepIn K (.ref f16) = true)
    (a17 : PySem.W.nsIn K mainGlobals "best_sequence" = some (some (.ref f17)))
    (l17 : K.lookup f17 = some ⟨oc17, od17, .func (PySem.W.fnOf "best_sequence" "best_sequence" (defArgs (top 23)) (defBody (top 23)) (defScope (top 23)) .none kV17 dc17 pm17 an17 cd17 ct17), sl17⟩) (c17 : PySem.W.codeIn K cd17 "best_sequence" = true) (k17 : PySem.W.keepIn K (.ref f17) = true)
    (a18 : PySem.W.nsIn K mainGlobals "law" = some (some (.ref f18)))
    (l18 : K.lookup f18 = some ⟨oc18, od18, .func (PySem.W.fnOf "law" "law" (defArgs (top 29)) (defBody (top 29)) (defScope (top 29)) .none kV18 dc18 pm18 an18 cd18 ct18), sl18⟩) (c18 : PySem.W.codeIn K cd18 "law" = true) (k18 : PySem.W.keepIn K (.ref f18) = true)
    (z_len : PySem.W.nsIn K mainGlobals "len" = some none)
    (z_min : PySem.W.nsIn K mainGlobals "min" = some none)
    (z_range : PySem.W.nsIn K mainGlobals "range" = some none)
    (z_sum : PySem.W.nsIn K mainGlobals "sum" = some none)
    (z_enumerate : PySem.W.nsIn K mainGlobals "enumerate" = some none)
    (z_max : PySem.W.nsIn K mainGlobals "max" = some none)
    (z_isinstance : PySem.W.nsIn K mainGlobals "isinstance" = some none)
    (z_tuple : PySem.W.nsIn K mainGlobals "tuple" = some none)
    (z_int : PySem.W.nsIn K mainGlobals "int" = some none)
    (z_bool : PySem.W.nsIn K mainGlobals "bool" = some none)
    (z_all : PySem.W.nsIn K mainGlobals "all" = some none)
    (z_sorted : PySem.W.nsIn K mainGlobals "sorted" = some none)
    (y_gcd : PySem.W.nsIn K mainGlobals "gcd" = some (some (.builtin "math.gcd")))
    (y_lcm : PySem.W.nsIn K mainGlobals "lcm" = some (some (.builtin "math.lcm")))
    (y_permutations : PySem.W.nsIn K mainGlobals "permutations" = some (some (.type "itertools.permutations")))
    (K_MOST_WIDTH : ∃ u, PySem.W.nsIn K mainGlobals "MOST_WIDTH" = some (some u) ∧ konst K u k_MOST_WIDTH = true)
    (K_MOST_WEIGHT : ∃ u, PySem.W.nsIn K mainGlobals "MOST_WEIGHT" = some (some u) ∧ konst K u k_MOST_WEIGHT = true)
    (K_MOST_BLOCKS : ∃ u, PySem.W.nsIn K mainGlobals "MOST_BLOCKS" = some (some u) ∧ konst K u k_MOST_BLOCKS = true)
    (true_law : ∀ ns : List Int, ns.length ≤ 63 → ∃ n', s_law ns ((some mkSc :: List.replicate 11 none).set 1 (some mkSt)) 0 = some (.rt (.bool true), n')) :
    ∃ fd : FuncData, (∀ (s : Shared) (v : Value), BindsTo s fd ⟨[v], []⟩ [("_law_script", v)]) ∧ ∀ base : Heap, K.In base → base.Ns mainGlobals mg → FnOk l.prog w K mg base CX0 7 fa fd ["_law_script"] (spLaw K) := by
  have e := hfa.symm.trans (PySem.W.mg_of X G a18)
  cases e
  have F0 := fun_mk (st := top 25) l0 c0 k0
  have b0 := F0.binds (ps := ["_law_script", "_law_k"]) fun _ _ _ _ _ _ us hl => match us, hl with | [_, _], _ => rfl
  have F1 := fun_mk (st := top 26) l1 c1 k1
  have b1 := F1.binds (ps := ["_law_script", "_law_k", "_law_many"]) fun _ _ _ _ _ _ us hl => match us, hl with | [_, _, _], _ => rfl
  have F2 := fun_mk (st := top 27) l2 c2 k2
  have b2 := F2.binds (ps := ["_law_script", "_law_state", "_law_many"]) fun _ _ _ _ _ _ us hl => match us, hl with | [_, _, _], _ => rfl
  have F3 := fun_mk (st := top 28) l3 c3 k3
  have b3 := F3.binds (ps := ["_law_count"]) fun _ _ _ _ _ _ us hl => match us, hl with | [_], _ => rfl
  have F4 := fun_mk (st := top 8) l4 c4 k4
  have b4 := F4.binds (ps := ["top", "bottom"]) fun _ _ _ _ _ _ us hl => match us, hl with | [_, _], _ => rfl
  have F5 := fun_mk (st := top 16) l5 c5 k5
  have b5 := F5.binds (ps := ["blocks"]) fun _ _ _ _ _ _ us hl => match us, hl with | [_], _ => rfl
  have F6 := fun_mk (st := top 17) l6 c6 k6
  have b6 := F6.binds (ps := ["blocks"]) fun _ _ _ _ _ _ us hl => match us, hl with | [_], _ => rfl
  have F7 := fun_mk (st := top 18) l7 c7 k7
  have b7 := F7.binds (ps := ["blocks", "number", "common"]) fun _ _ _ _ _ _ us hl => match us, hl with | [_, _, _], _ => rfl
  have F8 := fun_mk (st := top 19) l8 c8 k8
  have b8 := F8.binds (ps := ["blocks"]) fun _ _ _ _ _ _ us hl => match us, hl with | [_], _ => rfl
  have F9 := fun_mk (st := top 20) l9 c9 k9
  have b9 := F9.binds (ps := ["blocks"]) fun _ _ _ _ _ _ us hl => match us, hl with | [_], _ => rfl
  have F10 := fun_mk (st := top 7) l10 c10 k10
  have b10 := F10.binds (ps := ["value", "many"]) fun _ _ _ _ _ _ us hl => match us, hl with | [_, _], _ => rfl
  have F11 := fun_mk (st := top 6) l11 c11 k11
  have b11 := F11.binds (ps := ["value", "least", "most"]) fun _ _ _ _ _ _ us hl => match us, hl with | [_, _, _], _ => rfl
  have F12 := fun_mk (st := top 13) l12 c12 k12
  have b12 := F12.binds (ps := ["value"]) fun _ _ _ _ _ _ us hl => match us, hl with | [_], _ => rfl
  have F13 := fun_mk (st := top 14) l13 c13 k13
  have b13 := F13.binds (ps := ["value"]) fun _ _ _ _ _ _ us hl => match us, hl with | [_], _ => rfl
  have F14 := fun_mk (st := top 15) l14 c14 k14
  have b14 := F14.binds (ps := ["value"]) fun _ _ _ _ _ _ us hl => match us, hl with | [_], _ => rfl
  have F15 := fun_mk (st := top 21) l15 c15 k15
  have b15 := F15.binds (ps := ["blocks"]) fun _ _ _ _ _ _ us hl => match us, hl with | [_], _ => rfl
  have F16 := fun_mk (st := top 22) l16 c16 k16
  have b16 := F16.binds (ps := ["first", "second"]) fun _ _ _ _ _ _ us hl => match us, hl with | [_, _], _ => rfl
  have F17 := fun_mk (st := top 23) l17 c17 k17
  have b17 := F17.binds (ps := ["blocks"]) fun _ _ _ _ _ _ us hl => match us, hl with | [_], _ => rfl
  have F18 := fun_mk (st := top 29) l18 c18 k18
  have z_len := PySem.W.mg_none_of X G z_len
  have z_min := PySem.W.mg_none_of X G z_min
  have z_range := PySem.W.mg_none_of X G z_range
  have z_sum := PySem.W.mg_none_of X G z_sum
  have z_enumerate := PySem.W.mg_none_of X G z_enumerate
  have z_max := PySem.W.mg_none_of X G z_max
  have z_isinstance := PySem.W.mg_none_of X G z_isinstance
  have z_tuple := PySem.W.mg_none_of X G z_tuple
  have z_int := PySem.W.mg_none_of X G z_int
  have z_bool := PySem.W.mg_none_of X G z_bool
  have z_all := PySem.W.mg_none_of X G z_all
  have z_sorted := PySem.W.mg_none_of X G z_sorted
  have y_gcd := PySem.W.mg_of X G y_gcd
  have y_lcm := PySem.W.mg_of X G y_lcm
  have y_permutations := PySem.W.mg_of X G y_permutations
  have K_MOST_WIDTH : KonD K mg "MOST_WIDTH" k_MOST_WIDTH := KonD.of X G K_MOST_WIDTH
  have K_MOST_WEIGHT : KonD K mg "MOST_WEIGHT" k_MOST_WEIGHT := KonD.of X G K_MOST_WEIGHT
  have K_MOST_BLOCKS : KonD K mg "MOST_BLOCKS" k_MOST_BLOCKS := KonD.of X G K_MOST_BLOCKS
  refine ⟨PySem.W.fnOf "law" "law" (defArgs (top 29)) (defBody (top 29)) (defScope (top 29)) .none kV18 dc18 pm18 an18 cd18 ct18, fun s v => .of_eq rfl, fun base _ _ => ?_⟩
  have C_law_cell_at : CalD l.prog w K mg base 1 "_law_cell_at" 2 m_law_cell_at := ok_law_cell_at F0 (PySem.W.mg_of X G a0) b0 z_len z_min z_range
  have C_law_mixed : CalD l.prog w K mg base 2 "_law_mixed" 3 m_law_mixed := ok_law_mixed F1 (PySem.W.mg_of X G a1) b1 C_law_cell_at
  have C_law_draw : CalD l.prog w K mg base 3 "_law_draw" 3 m_law_draw := ok_law_draw F2 (PySem.W.mg_of X G a2) b2 C_law_mixed z_len
  have C_law_orders : CalD l.prog w K mg base 1 "_law_orders" 1 m_law_orders := ok_law_orders F3 (PySem.W.mg_of X G a3) b3 z_range
  have C_reduced : CalD l.prog w K mg base 1 "reduced" 2 m_reduced := ok_reduced F4 (PySem.W.mg_of X G a4) b4 y_gcd
  have C_weights_from : CalF l.prog w K mg base 1 "weights_from" 1 m_weights_from := ok_weights_from F5 (PySem.W.mg_of X G a5) b5 z_len z_range z_sum
  have C_common_weight : CalD l.prog w K mg base 2 "common_weight" 1 m_common_weight := ok_common_weight F6 (PySem.W.mg_of X G a6) b6 C_weights_from y_lcm
  have C_lefts_toward : CalF l.prog w K mg base 2 "lefts_toward" 3 m_lefts_toward := ok_lefts_toward F7 (PySem.W.mg_of X G a7) b7 C_weights_from z_enumerate
  have C_farthest_tower : CalD l.prog w K mg base 3 "farthest_tower" 1 m_farthest_tower := ok_farthest_tower F8 (PySem.W.mg_of X G a8) b8 C_common_weight C_lefts_toward z_enumerate z_max
  have C_reach_of : CalD l.prog w K mg base 4 "reach_of" 1 m_reach_of := ok_reach_of F9 (PySem.W.mg_of X G a9) b9 C_farthest_tower C_reduced
  have C_is_tuple : CalD l.prog w K mg base 1 "is_tuple" 2 m_is_tuple := ok_is_tuple F10 (PySem.W.mg_of X G a10) b10 z_isinstance z_tuple z_len
  have C_is_whole : CalD l.prog w K mg base 1 "is_whole" 3 m_is_whole := ok_is_whole F11 (PySem.W.mg_of X G a11) b11 z_isinstance z_int z_bool
  have C_is_tower_block : CalD l.prog w K mg base 2 "is_tower_block" 1 m_is_tower_block := ok_is_tower_block F12 (PySem.W.mg_of X G a12) b12 C_is_tuple C_is_whole K_MOST_WIDTH K_MOST_WEIGHT
  have C_are_blocks : CalD l.prog w K mg base 3 "are_blocks" 1 m_are_blocks := ok_are_blocks F13 (PySem.W.mg_of X G a13) b13 C_is_tower_block z_isinstance z_tuple z_len z_all K_MOST_BLOCKS
  have C_check_blocks : CalD l.prog w K mg base 4 "check_blocks" 1 m_check_blocks := ok_check_blocks F14 (PySem.W.mg_of X G a14) b14 C_are_blocks
  have C_reach : CalD l.prog w K mg base 5 "reach" 1 m_reach := ok_reach F15 (PySem.W.mg_of X G a15) b15 C_check_blocks C_reach_of
  have C_is_greater : CalD l.prog w K mg base 1 "is_greater" 2 m_is_greater := ok_is_greater F16 (PySem.W.mg_of X G a16) b16
  have C_best_sequence : CalD l.prog w K mg base 5 "best_sequence" 1 m_best_sequence := ok_best_sequence F17 (PySem.W.mg_of X G a17) b17 C_check_blocks C_reach_of C_is_greater z_sorted z_tuple y_permutations
  exact ok_law F18 C_law_draw C_law_orders C_reach C_best_sequence z_range z_tuple z_len true_law

end DL
namespace DL
open PySem PySem.Spec PyProof.Rows L2
def k_FRACTION_LIMIT : D := (.int 1000000000000)
def m_reaching_tower (ns : List Int) : List D → M D := fnD 5 (sSeq (sDrop (dCall (m_check_blocks ns) (dAs [(dVar 0)]))) (sSeq (sAsg (gTp [(gNm 1), (gNm 2), (gNm 3)]) (dCall (m_farthest_tower ns) (dAs [(dVar 0)]))) (sRet (dUnA hTupleOf (dAs [(dLc (iL (dVar 2)) [4] (gNm 4) dYes (dCall (m_reduced ns) (dAs [(dVar 4), (dVar 3)])))])))))
def m_is_fraction (ns : List Int) : List D → M D := fnD 3 (sSeq (sIf (dNot (dTest (dCall (m_is_tuple ns) (dAs [(dVar 0), (dC (.int 2))])))) (sRet (dC (.bool false))) sNil) (sSeq (sAsg (gTp [(gNm 1), (gNm 2)]) (dVar 0)) (sSeq (sIf (dNot (dTest (dCall (m_is_whole ns) (dAs [(dVar 1), (dUn hNeg (dC k_FRACTION_LIMIT)), (dC k_FRACTION_LIMIT)])))) (sRet (dC (.bool false))) sNil) (sRet (dAndV (dCall (m_is_whole ns) (dAs [(dVar 2), (dC (.int 1)), (dC k_FRACTION_LIMIT)])) (dBin hEqD (dUnA hGcd (dAs [(dVar 1), (dVar 2)])) (dC (.int 1))))))))
def m_whole_lefts (ns : List Int) : List D → M D := fnD 5 (sSeq (sSet 1 (dC (.int 1))) (sSeq (sFor (iT (dVar 0)) (gNm 2) (sSet 1 (dUnA hLcm2 (dAs [(dVar 1), (dBin hIx (dVar 2) (dC (.int 1)))])))) (sRet (dUnA hTup (dAs [(dVar 1), (dLc (iT (dVar 0)) [3, 4] (gTp [(gNm 3), (gNm 4)]) dYes (dBin hMul (dVar 3) (dBin hFdiv (dVar 1) (dVar 4))))])))))
def m_twice_turns_from (ns : List Int) : List D → M D := fnL 8 (sSeq (sSet 3 (dLc (iZx (dAs [(dVar 0), (dVar 1)])) [6, 4, 5] (gTp [(gTp [(gNm 4), (gNm 5)]), (gNm 6)]) dYes (dBin hMul (dVar 5) (dBin hAdd (dBin hMul (dC (.int 2)) (dVar 6)) (dBin hMul (dVar 4) (dVar 2)))))) (sRet (fLst (dLc (iR1 (dAs [(dUnA hLen (dAs [(dVar 3)]))])) [7] (gNm 7) dYes (dUnA hSum (dAs [(dSl (dVar 3) (some (dVar 7)) none)]))))))
def m_is_tower (ns : List Int) : List D → M D := fnD 10 (sSeq (sDrop (dCall (m_check_blocks ns) (dAs [(dVar 0)]))) (sSeq (sIf (dOr (dNot (dTest (dCall (m_is_tuple ns) (dAs [(dVar 1), (dUnA hLen (dAs [(dVar 0)]))])))) (dNot (dTest (dUnA hAll (dAs [(dLc (iT (dVar 1)) [2] (gNm 2) dYes (dCall (m_is_fraction ns) (dAs [(dVar 2)])))]))))) (sRet (dC (.bool false))) sNil) (sSeq (sAsg (gTp [(gNm 3), (gNm 4)]) (dCall (m_whole_lefts ns) (dAs [(dVar 1)]))) (sSeq (sSet 5 (dCall (m_weights_from ns) (dAs [(dVar 0)]))) (sSeq (sSet 6 (dCall (m_twice_turns_from ns) (dAs [(dVar 0), (dVar 4), (dVar 3)]))) (sSeq (sIf (dTest (dBin hGt (dBin hIx (dVar 6) (dC (.int 0))) (dC (.int 0)))) (sRet (dC (.bool false))) sNil) (sSeq (sFor (iR2 (dAs [(dC (.int 1)), (dUnA hLen (dAs [(dVar 0)]))])) (gNm 7) (sSeq (sSet 8 (dBin hIx (dVar 4) (dBin hSubI (dVar 7) (dC (.int 1))))) (sSeq (sSet 9 (dBin hAdd (dVar 8) (dBin hMul (dBin hIx (dBin hIx (dVar 0) (dBin hSubI (dVar 7) (dC (.int 1)))) (dC (.int 0))) (dVar 3)))) (sIf (dNot (dTest (dChain hLe hLe (dBin hMul (dBin hMul (dC (.int 2)) (dVar 8)) (dBin hIx (dVar 5) (dVar 7))) (dBin hIx (dVar 6) (dVar 7)) (dBin hMul (dBin hMul (dC (.int 2)) (dVar 9)) (dBin hIx (dVar 5) (dVar 7)))))) (sRet (dC (.bool false))) sNil)))) (sRet (dC (.bool true))))))))))
def m_law_reach (ns : List Int) : List D → M D := fnD 6 (sSeq (sSet 2 (dC .none)) (sSeq (sFor (iZx (dAs [(dVar 0), (dVar 1)])) (gTp [(gNm 3), (gNm 4)]) (sSeq (sSet 5 (dUnA hTup (dAs [(dBin hAdd (dBin hIx (dVar 4) (dC (.int 0))) (dBin hMul (dBin hIx (dVar 3) (dC (.int 0))) (dBin hIx (dVar 4) (dC (.int 1))))), (dBin hIx (dVar 4) (dC (.int 1)))]))) (sSet 2 (dIf (dOr (dTest (dBin hIsB (dVar 2) (dC .none))) (dTest (dBin hGt (dBin hMul (dBin hIx (dVar 5) (dC (.int 0))) (dBin hIx (dVar 2) (dC (.int 1)))) (dBin hMul (dBin hIx (dVar 2) (dC (.int 0))) (dBin hIx (dVar 5) (dC (.int 1))))))) (dVar 5) (dVar 2))))) (sRet (dVar 2))))
def m_law_same_truth (ns : List Int) : List D → M D := fnD 2 (sRet (dAndV (dUn (hIsi "bool") (dVar 0)) (dBin hEqD (dVar 0) (dVar 1))))
def m_law_sum (ns : List Int) : List D → M D := fnD 4 (sSeq (sAsg (gTp [(gNm 1), (gNm 2)]) (dUnA hTup (dAs [(dC (.int 0)), (dC (.int 1))]))) (sSeq (sFor (iL (dVar 0)) (gNm 3) (sPar 1 2 (dAs [(dBin hAdd (dBin hMul (dVar 1) (dBin hIx (dVar 3) (dC (.int 1)))) (dBin hMul (dBin hIx (dVar 3) (dC (.int 0))) (dVar 2))), (dBin hMul (dVar 2) (dBin hIx (dVar 3) (dC (.int 1))))]))) (sRet (dUnA hTup (dAs [(dVar 1), (dVar 2)])))))
def m_law_middle (ns : List Int) : List D → M D := fnD 8 (sSeq (sSet 2 (dLc (iZx (dAs [(dVar 0), (dVar 1)])) [5, 3, 4] (gTp [(gTp [(gNm 3), (gNm 4)]), (gNm 5)]) dYes (dUnA hTup (dAs [(dBin hMul (dVar 4) (dBin hAdd (dBin hMul (dC (.int 2)) (dBin hIx (dVar 5) (dC (.int 0)))) (dBin hMul (dVar 3) (dBin hIx (dVar 5) (dC (.int 1)))))), (dBin hMul (dC (.int 2)) (dBin hIx (dVar 5) (dC (.int 1))))])))) (sSeq (sAsg (gTp [(gNm 6), (gNm 7)]) (dCall (m_law_sum ns) (dAs [(dVar 2)]))) (sRet (dUnA hTup (dAs [(dVar 6), (dBin hMul (dVar 7) (dUnA hSum (dAs [(dLc (iT (dVar 0)) [3, 4] (gTp [(gNm 3), (gNm 4)]) dYes (dVar 4))])))])))))
def m_law_holds (ns : List Int) : List D → M D := fnD 8 (sSeq (sFor (iR1 (dAs [(dUnA hLen (dAs [(dVar 0)]))])) (gNm 2) (sSeq (sAsg (gTp [(gNm 3), (gNm 4)]) (dCall (m_law_middle ns) (dAs [(dSl (dVar 0) (some (dVar 2)) none), (dSl (dVar 1) (some (dVar 2)) none)]))) (sSeq (sIf (dAnd (dTest (dBin hEqD (dVar 2) (dC (.int 0)))) (dTest (dBin hGt (dVar 3) (dC (.int 0))))) (sRet (dC (.bool false))) sNil) (sIf (dTest (dBin hGt (dVar 2) (dC (.int 0)))) (sSeq (sAsg (gTp [(gNm 5), (gNm 6)]) (dBin hIx (dVar 1) (dBin hSubI (dVar 2) (dC (.int 1))))) (sSeq (sSet 7 (dBin hAdd (dVar 5) (dBin hMul (dVar 6) (dBin hIx (dBin hIx (dVar 0) (dBin hSubI (dVar 2) (dC (.int 1)))) (dC (.int 0)))))) (sIf (dOr (dTest (dBin hLt (dBin hMul (dVar 3) (dVar 6)) (dBin hMul (dVar 5) (dVar 4)))) (dTest (dBin hGt (dBin hMul (dVar 3) (dVar 6)) (dBin hMul (dVar 7) (dVar 4))))) (sRet (dC (.bool false))) sNil))) sNil)))) (sRet (dC (.bool true))))
end DL
namespace DL
open PySem PySem.Spec PyProof.Rows L2
/-! ### what a built-in type's name tells -/
theorem kb (a b : String) (r : Bool) (h : kitB a b = some r) (d : D) (ht : tyName d = some a) : hIsi b d = some (.bool r) := by
  unfold hIsi
  rw [ht]
  simp only
  rw [h]
def isTy : String → D → Bool
  | "int", .int _ => true
  | "int", .bool _ => true
  | "bool", .bool _ => true
  | "tuple", .tuple _ => true
  | "list", .list _ => true
  | _, _ => false
theorem isi_int (d : D) (h : noDict d = true) : hIsi "int" d = some (.bool (isTy "int" d)) := by
  cases d with
  | none => exact kb "NoneType" "int" false (by decide +kernel) _ rfl
  | bool b => exact kb "bool" "int" true (by decide +kernel) _ rfl
  | int b => exact kb "int" "int" true (by decide +kernel) _ rfl
  | str b => exact kb "str" "int" false (by decide +kernel) _ rfl
  | list b => exact kb "list" "int" false (by decide +kernel) _ rfl
  | tuple b => exact kb "tuple" "int" false (by decide +kernel) _ rfl
  | dict b => cases h
theorem isi_bool (d : D) (h : noDict d = true) : hIsi "bool" d = some (.bool (isTy "bool" d)) := by
  cases d with
  | none => exact kb "NoneType" "bool" false (by decide +kernel) _ rfl
  | bool b => exact kb "bool" "bool" true (by decide +kernel) _ rfl
  | int b => exact kb "int" "bool" false (by decide +kernel) _ rfl
  | str b => exact kb "str" "bool" false (by decide +kernel) _ rfl
  | list b => exact kb "list" "bool" false (by decide +kernel) _ rfl
  | tuple b => exact kb "tuple" "bool" false (by decide +kernel) _ rfl
  | dict b => cases h
theorem isi_tuple (d : D) (h : noDict d = true) : hIsi "tuple" d = some (.bool (isTy "tuple" d)) := by
  cases d with
  | none => exact kb "NoneType" "tuple" false (by decide +kernel) _ rfl
  | bool b => exact kb "bool" "tuple" false (by decide +kernel) _ rfl
  | int b => exact kb "int" "tuple" false (by decide +kernel) _ rfl
  | str b => exact kb "str" "tuple" false (by decide +kernel) _ rfl
  | list b => exact kb "list" "tuple" false (by decide +kernel) _ rfl
  | tuple b => exact kb "tuple" "tuple" true (by decide +kernel) _ rfl
  | dict b => cases h
def isW (d : D) (l m : Int) : Bool := match d with
  | .int v => decide (l ≤ v) && decide (v ≤ m)
  | _ => false
theorem is_whole_eq (ns : List Int) (d : D) (l m : Int) (n : Nat) (h : noDict d = true) : m_is_whole ns [d, .int l, .int m] n = some (.bool (isW d l m), n) := by
  have h1 := isi_int d h
  have h2 := isi_bool d h
  cases d with
  | int v => by_cases q : l ≤ v <;> simp [m_is_whole, h1, h2, isTy, isW, q]
  | dict _ => cases h
  | _ => simp [m_is_whole, h1, h2, isTy, isW]
/-! ### shapes -/
def Shp (k : Nat) (d : D) : Prop := d.canLay0 = true ∧ d.depth ≤ k
theorem Shp.int {i : Int} {k : Nat} : Shp k (.int i) := ⟨by simp [PyData.canLay0], by simp [PyData.depth]⟩
theorem Shp.bool {i : Bool} {k : Nat} : Shp k (.bool i) := ⟨by simp [PyData.canLay0], by simp [PyData.depth]⟩
theorem Shp.none' {k : Nat} : Shp k .none := ⟨by simp [PyData.canLay0], by simp [PyData.depth]⟩
theorem Shp.all {k : Nat} : ∀ {ds : List D}, (∀ d ∈ ds, Shp k d) → PyData.canLayAll0 ds = true ∧ PyData.depthAll ds ≤ k
  | [], _ => ⟨by simp [PyData.canLayAll0], by simp [PyData.depthAll]⟩
  | d :: ds, h => by
    have h1 := h d List.mem_cons_self
    have h2 := Shp.all (ds := ds) fun e he => h e (List.mem_cons_of_mem _ he)
    refine ⟨by simp [PyData.canLayAll0, h1.1, h2.1], ?_⟩
    simp only [PyData.depthAll]
    have := h1.2
    have := h2.2
    omega
theorem Shp.tuple {k : Nat} {ds : List D} (h : ∀ d ∈ ds, Shp k d) : Shp (k + 1) (.tuple ds) := by
  have := Shp.all h
  exact ⟨by simp [PyData.canLay0, this.1], by simp only [PyData.depth]; omega⟩
theorem Shp.list {k : Nat} {ds : List D} (h : ∀ d ∈ ds, Shp k d) : Shp (k + 1) (.list ds) := by
  have := Shp.all h
  exact ⟨by simp [PyData.canLay0, this.1], by simp only [PyData.depth]; omega⟩
theorem Shp.ok {k : Nat} {d : D} (h : Shp k d) (hk : k ≤ 64) : SeqAt.shaped d = true := by
  unfold SeqAt.shaped
  rw [h.1, Bool.true_and]
  exact decide_eq_true (Nat.le_trans h.2 hk)
theorem shaped_scr (ns : List Int) : SeqAt.shaped (scrD ns) = true := by
  refine Shp.ok (k := 1) (Shp.list fun d hd => ?_) (by decide)
  obtain ⟨i, _, rfl⟩ := List.mem_map.mp hd
  exact Shp.int
/-! ### draws -/
theorem atI_some {α : Type} {l : List α} {i : Int} (h0 : 0 ≤ i) (h1 : i < l.length) : ∃ x, atI l i = some x ∧ x ∈ l := by
  unfold atI ixN
  rw [if_pos h0, if_pos h1]
  have : i.toNat < l.length := by omega
  exact ⟨l[i.toNat], by simp [List.getElem?_eq_getElem this], List.getElem_mem _⟩
theorem spare_loop (m : Nat) : ∀ (ds : List D) (ρ : DEnv) (n : Nat) (a b : D) (z : Int), (∀ d ∈ ds, noDict d = true) → (∃ e, ρ = [some a, some b, some (.int z), e]) → ∃ z' e', dFor (gNm 3) (sSet 2 (dBin hFdiv (dVar 2) (dC (.int 1000003)))) ds ρ n = some (.nx [some a, some b, some (.int z'), e'], n)
  | [], _, n, a, b, z, _, ⟨e, h⟩ => ⟨z, e, by rw [h]; rfl⟩
  | d :: ds, _, n, a, b, z, hd, ⟨e, h⟩ => by
    subst h
    obtain ⟨z', e', ih⟩ := spare_loop m ds [some a, some b, some (.int (z / 1000003)), some d] n a b (z / 1000003) (fun x hx => hd x (List.mem_cons_of_mem _ hx)) ⟨_, rfl⟩
    refine ⟨z', e', ?_⟩
    unfold dFor
    have := hd d List.mem_cons_self
    simp [this]
    exact ih
theorem rangeD_noDict {lo : Int} {k : Nat} : ∀ d ∈ rangeD lo k, noDict d = true := fun d hd => by
  obtain ⟨i, _, rfl⟩ := List.mem_map.mp hd
  rfl
theorem cell_ex (ns : List Int) (k : Nat) (n : Nat) (hlen : ns.length ≤ 63) (hk : k < 1000000) : ∃ z, m_law_cell_at ns [mkSc, .int k] n = some (.int z, n) := by
  unfold m_law_cell_at
  by_cases h : (k : Int) < ns.length
  · obtain ⟨z, hz, _⟩ := atI_some (l := ns) (i := k) (by omega) h
    exact ⟨z, by simp [h, hIxN, hz]⟩
  · by_cases h0 : ns = []
    · subst h0
      have hs : SeqAt.shaped (.list []) = true := rfl
      have h' : ¬ (k : Int) < 0 := by omega
      exact ⟨0, by simp [h', hs, scrD, PyData.eqv, PyData.eqvAll]⟩
    · have hl : 0 < ns.length := by cases ns with | nil => exact absurd rfl h0 | cons _ _ => simp
      have hs := shaped_scr ns
      have he : PyData.eqv (scrD ns) (.list []) = false := by
        cases ns with
        | nil => exact absurd rfl h0
        | cons a l => simp [scrD, PyData.eqv, PyData.eqvAll]
      have hm0 : 0 ≤ (k : Int) % (ns.length : Int) := Int.emod_nonneg _ (by omega)
      have hm1 : (k : Int) % (ns.length : Int) < ns.length := Int.emod_lt_of_pos _ (by omega)
      obtain ⟨z, hz, _⟩ := atI_some (l := ns) hm0 hm1
      have hlp : (0 : Int) < (ns.length : Int) := by omega
      have hld : (ns.length : Int) < 1073741824 := by omega
      have hq0 : 0 ≤ (k : Int) / (ns.length : Int) := Int.ediv_nonneg (by omega) (by omega)
      have hq1 : (k : Int) / (ns.length : Int) ≤ k := Int.ediv_le_self _ (by omega)
      generalize hq : (k : Int) / (ns.length : Int) = q at hq0 hq1
      obtain ⟨z', e', hloop⟩ := spare_loop 0 (rangeD 0 (if 60 < q then 60 else q).toNat) [some mkSc, some (.int k), some (.int z), none] n mkSc (.int k) z rangeD_noDict ⟨_, rfl⟩
      have hr : (-(2 ^ 62) : Int) ≤ (if 60 < q then 60 else q) ∧ (if 60 < q then 60 else q) < (2 ^ 62 : Int) := by split <;> omega
      refine ⟨z * 31 + k + z' * 101, ?_⟩
      simp [h, hs, he, hIxN, hz, hl, hld, hq]
      simp at hloop hr
      rw [if_pos (by simpa using hr)]
      simp [hloop, hz, hl, hIxN]
theorem mixed_ex (ns : List Int) (k : Nat) (many : Int) (n : Nat) (hlen : ns.length ≤ 63) (hk : k < 1000000) (hm : 0 < many) : ∃ z, 0 ≤ z ∧ z < many ∧ m_law_mixed ns [mkSc, .int k, .int many] n = some (.int z, n) := by
  obtain ⟨z, hz⟩ := cell_ex ns k n hlen hk
  unfold m_law_mixed
  generalize hs : (z * 1103515245 + 7919 * (k : Int) + 12345) % 2147483647 = spun
  have h0 : 0 ≤ spun := by rw [← hs]; exact Int.emod_nonneg _ (by decide)
  have h1 : spun < 2147483647 := by rw [← hs]; exact Int.emod_lt_of_pos _ (by decide)
  have h2 : spun.natAbs < 2 ^ 64 := by omega
  refine ⟨spun ^ 5 % 2147483647 % 999983 % many, Int.emod_nonneg _ (by omega), Int.emod_lt_of_pos _ hm, ?_⟩
  simp only [Nat.reducePow] at h2
  simp [hz, hs, h2, hm]
theorem draw_ex (ns : List Int) (many : Int) (n : Nat) (hlen : ns.length ≤ 63) (hn : n < 100000) (hm : 0 < many) : ∃ z, 0 ≤ z ∧ z < many ∧ m_law_draw ns [mkSc, mkSt, .int many] n = some (.int z, n + 1) := by
  obtain ⟨z, h0, h1, hz⟩ := mixed_ex ns (n + 1) many (n + 1) hlen (by omega) hm
  refine ⟨z, h0, h1, ?_⟩
  unfold m_law_draw
  have hl : n < LIM := by show n < 16777216; omega
  simp at hz
  simp [hl, hz]
end DL
namespace DL
open PySem PySem.Spec PyProof.Rows L2
/-! ### towers: blocks, lefts, the mirrors in plain words -/
structure Fr where
  a : Int
  b : Int
  deriving DecidableEq
def Fr.d (x : Fr) : D := .tuple [.int x.a, .int x.b]
structure TB where
  w : Int
  t : Int
  deriving DecidableEq
def TB.d (x : TB) : D := .tuple [.int x.w, .int x.t]
@[simp] theorem Fr.ix0 (x : Fr) : hIx x.d (.int 0) = some (.int x.a) := atI_0
@[simp] theorem Fr.ix1 (x : Fr) : hIx x.d (.int 1) = some (.int x.b) := atI_1
@[simp] theorem Fr.nd (x : Fr) : noDict x.d = true := rfl
@[simp] theorem TB.ix0 (x : TB) : hIx x.d (.int 0) = some (.int x.w) := atI_0
@[simp] theorem TB.ix1 (x : TB) : hIx x.d (.int 1) = some (.int x.t) := atI_1
@[simp] theorem TB.nd (x : TB) : noDict x.d = true := rfl
structure TB.ok (x : TB) : Prop where
  w0 : 1 ≤ x.w
  w1 : x.w ≤ 8
  t0 : 1 ≤ x.t
  t1 : x.t ≤ 9
def LF : Int := 1000000000000
def Fr.okB (x : Fr) : Bool := (decide (-LF ≤ x.a) && decide (x.a ≤ LF)) && ((decide (1 ≤ x.b) && decide (x.b ≤ LF)) && decide ((Int.gcd x.a x.b : Int) = 1))
theorem isty_len (ns : List Int) (d : D) (k : Int) (n : Nat) (h : noDict d = true) : m_is_tuple ns [d, .int k] n = some (.bool (match d with | .tuple ds => decide ((ds.length : Int) = k) | _ => false), n) := by
  have h1 := isi_tuple d h
  cases d with
  | dict _ => cases h
  | tuple ds => simp [m_is_tuple, h1, isTy]
  | _ => simp [m_is_tuple, h1, isTy]
theorem is_fraction_eq (ns : List Int) (x : Fr) (n : Nat) : m_is_fraction ns [x.d] n = some (.bool x.okB, n) := by
  have h1 := isty_len ns x.d 2 n rfl
  have h2 := is_whole_eq ns (.int x.a) (-LF) LF n rfl
  have h3 := is_whole_eq ns (.int x.b) 1 LF n rfl
  have hk : k_FRACTION_LIMIT = .int LF := rfl
  have hg : hGcd [.int x.a, .int x.b] = some (.int (Int.gcd x.a x.b)) := rfl
  unfold m_is_fraction
  rw [hk]
  unfold Fr.okB
  generalize LF = B at h2 h3 ⊢
  simp only [Fr.d] at h1 ⊢
  simp only [isW] at h2 h3
  by_cases a1 : -B ≤ x.a
  · by_cases a2 : x.a ≤ B
    · by_cases b1 : 1 ≤ x.b
      · by_cases b2 : x.b ≤ B
        · simp [h1, h2, h3, a1, a2, b1, b2, hg]
        · simp [h1, h2, h3, a1, a2, b1, b2]
      · simp [h1, h2, h3, a1, a2, b1]
    · simp [h1, h2, a1, a2]
  · simp [h1, h2, a1]
theorem is_fraction_int (ns : List Int) (i : Int) (n : Nat) : m_is_fraction ns [.int i] n = some (.bool false, n) := by
  have h1 := isty_len ns (.int i) 2 n rfl
  unfold m_is_fraction
  simp [h1]
theorem is_tower_block_eq (ns : List Int) (x : TB) (n : Nat) (h : x.ok) : m_is_tower_block ns [x.d] n = some (.bool true, n) := by
  have h1 := isty_len ns x.d 2 n rfl
  have h2 := is_whole_eq ns (.int x.w) 1 8 n rfl
  have h3 := is_whole_eq ns (.int x.t) 1 9 n rfl
  obtain ⟨a1, a2, a3, a4⟩ := h
  have k1 : k_MOST_WIDTH = .int 8 := rfl
  have k2 : k_MOST_WEIGHT = .int 9 := rfl
  unfold m_is_tower_block
  rw [k1, k2]
  simp [TB.d] at h1
  simp [h1, TB.d, h2, h3, isW, a1, a2, a3, a4]

theorem sRet_of {f : DEnv → M D} {ρ : DEnv} {n n' : Nat} {d : D} (h : f ρ n = some (d, n')) : sRet f ρ n = some (.rt d, n') := by
  unfold sRet
  rw [h]
theorem fLst_of {f : DEnv → M D} {ρ : DEnv} {n n' : Nat} {ds : List D} (h : f ρ n = some (.list ds, n')) : fLst f ρ n = some (.list ds, n') := by
  unfold fLst
  rw [h]
theorem dLc_of {it : DEnv → M (List D)} {vs : List Nat} {g : TgD} {t : DEnv → M Bool} {f : DEnv → M D} {ρ : DEnv} {n n1 n2 : Nat} {ds xs : List D} (h1 : it ρ n = some (ds, n1)) (h2 : ds.length ≤ 16777216) (h3 : dComp g t f (wipeD ρ vs) ds n1 = some (xs, n2)) : dLc it vs g t f ρ n = some (.list xs, n2) := by
  unfold dLc
  rw [h1]
  simp only
  rw [if_pos h2, h3]
theorem dComp_range {g : TgD} {f : DEnv → M D} {ρ : DEnv} {p : Nat → D} (m : Nat) : ∀ (N lo : Nat), (∀ i, lo ≤ i → i < lo + N → ∃ ρ1, g (.int i) ρ = some ρ1 ∧ f ρ1 m = some (p i, m) ∧ noDict (p i) = true) → dComp g dYes f ρ (rangeD lo N) m = some ((List.range' lo N).map p, m)
  | 0, _, _ => rfl
  | N + 1, lo, h => by
    obtain ⟨ρ1, h1, h2, h3⟩ := h lo (Nat.le_refl _) (by omega)
    rw [rangeD_succ', List.range'_succ, List.map_cons]
    unfold dComp
    rw [h1]
    simp only [dYes_ap, h2, h3, if_true]
    have ih := dComp_range m N (lo + 1) fun i a b => h i (by omega) (by omega)
    rw [Int.natCast_add, Int.natCast_one] at ih
    rw [ih]
where
  rangeD_succ' {lo : Int} {n : Nat} : rangeD lo (n + 1) = .int lo :: rangeD (lo + 1) n := by
    unfold rangeD
    rw [List.range_succ_eq_map, List.map_cons, List.map_map]
    congr 1
    · simp
    · refine List.map_congr_left fun i _ => ?_
      show PyData.int (lo + ((i + 1 : Nat) : Int)) = .int (lo + 1 + (i : Int))
      congr 1
      omega
theorem cutD_drop (ds : List D) (i : Nat) : cutD ds (some (i : Int)) none = ds.drop i := by
  unfold cutD
  rw [HT.sIx_none, HT.sIx_nat]
  rw [List.take_of_length_le (by rw [List.length_drop]; omega)]
  by_cases h : i ≤ ds.length
  · rw [Nat.min_eq_left h]
  · rw [Nat.min_eq_right (by omega), List.drop_of_length_le (Nat.le_refl _), List.drop_of_length_le (by omega)]
theorem intsD_map {α : Type} (p : α → Int) : ∀ l : List α, intsD (l.map fun x => .int (p x)) = some (l.map p)
  | [] => rfl
  | x :: l => by
    rw [List.map_cons]
    unfold intsD
    rw [intsD_map p l]
    rfl
/-- the weight of block k and those above it -/
def WT (bs : List TB) : Int := (bs.map TB.t).sum
theorem weights_comp (ns : List Int) (bs : List TB) (e0 e1 : Option D) (n : Nat) : dComp (gTp [gNm 1, gNm 2]) dYes (dVar 2) [e0, none, none, e1] (bs.map TB.d) n = some (bs.map fun b => .int b.t, n) := by
  have := dComp_map (g := gTp [gNm 1, gNm 2]) (f := dVar 2) (ρ := [e0, none, none, e1]) (p := fun d => match d with | .tuple [_, y] => y | _ => .none) (bs.map TB.d) n (by
    intro d hd m
    obtain ⟨b, _, rfl⟩ := List.mem_map.mp hd
    exact ⟨[e0, some (.int b.w), some (.int b.t), e1], by simp [TB.d], by simp [TB.d], rfl⟩)
  rw [this, List.map_map]
  rfl
theorem weights_from_eq (ns : List Int) (bs : List TB) (n : Nat) (hl : bs.length ≤ 1000) : m_weights_from ns [.tuple (bs.map TB.d)] n = some (.list ((List.range' 0 bs.length).map fun k => .int (WT (bs.drop k))), n) := by
  unfold m_weights_from
  refine fnL_of rfl (sRet_of (fLst_of (dLc_of (ds := rangeD 0 bs.length) (n1 := n) ?_ (by rw [rangeD_len]; omega) ?_)))
  · exact iR1_nat (k := bs.length) (by simp) (by omega)
  · refine dComp_range n bs.length 0 fun i _ _ => ⟨[some (.tuple (bs.map TB.d)), none, none, some (.int i)], by simp, ?_, rfl⟩
    have hc := weights_comp ns (bs.drop i) (some (.tuple (bs.map TB.d))) (some (.int i)) n
    rw [List.map_drop] at hc
    have hs := intsD_map TB.t (bs.drop i)
    have hlim : (bs.length - i) ≤ 16777216 := by omega
    have e : (fun b : TB => PyData.int b.t) = fun b => .int (TB.t b) := rfl
    simp [cutD_drop, hlim, hc, hSum, WT]
    rw [← e] at hs
    rw [← List.map_drop, hs]
    simp [List.map_drop]
end DL
namespace DL
open PySem PySem.Spec PyProof.Rows L2
theorem Fr.bnd {x : Fr} (h : x.okB = true) : -1000000000000 ≤ x.a ∧ x.a ≤ 1000000000000 ∧ 1 ≤ x.b ∧ x.b ≤ 1000000000000 := by
  unfold Fr.okB LF at h
  simp only [Bool.and_eq_true, decide_eq_true_eq] at h
  exact ⟨h.1.1, h.1.2, h.2.1.1, h.2.1.2⟩
/-- a multiple of all bottoms -/
def UN (u : Nat) (fs : List Fr) : Nat := fs.foldl (fun u f => Nat.lcm u f.b.natAbs) u
theorem UN_cons (u : Nat) (f : Fr) (fs : List Fr) : UN u (f :: fs) = UN (Nat.lcm u f.b.natAbs) fs := rfl
theorem lcm_le_mul' (u b : Nat) (hu : 0 < u) (hb : 0 < b) : Nat.lcm u b ≤ u * b := Nat.le_of_dvd (Nat.mul_pos hu hb) (Nat.lcm_dvd (Nat.dvd_mul_right u b) (Nat.dvd_mul_left b u))
theorem UN_pos : ∀ (fs : List Fr) (u : Nat), 0 < u → (∀ f ∈ fs, f.okB = true) → 0 < UN u fs
  | [], _, h, _ => h
  | f :: fs, u, h, hf => UN_pos fs _ (Nat.lcm_pos h (by have := (Fr.bnd (hf f List.mem_cons_self)).2.2.1; omega)) fun g hg => hf g (List.mem_cons_of_mem _ hg)
theorem UN_dvd0 : ∀ (fs : List Fr) (u : Nat), u ∣ UN u fs
  | [], u => Nat.dvd_refl u
  | f :: fs, u => Nat.dvd_trans (Nat.dvd_lcm_left u _) (UN_dvd0 fs _)
theorem UN_dvd : ∀ (fs : List Fr) (u : Nat) (f : Fr), f ∈ fs → f.b.natAbs ∣ UN u fs
  | [], _, _, h => nomatch h
  | g :: fs, u, f, h => by
    rcases List.mem_cons.mp h with rfl | h
    · exact Nat.dvd_trans (Nat.dvd_lcm_right u _) (UN_dvd0 fs _)
    · exact UN_dvd fs _ f h
theorem log2_le_of {m k : Nat} (h : m < 2 ^ k) : m.log2 ≤ k := by
  by_cases h0 : m = 0
  · subst h0
    simp
  · exact Nat.le_of_lt ((Nat.log2_lt h0).mpr h)
theorem UN_le : ∀ (fs : List Fr) (u k : Nat), 0 < u → u ≤ 2 ^ k → (∀ f ∈ fs, f.okB = true) → UN u fs ≤ 2 ^ (k + 40 * fs.length)
  | [], u, k, _, h, _ => by simpa [UN] using h
  | f :: fs, u, k, hu, h, hf => by
    obtain ⟨_, _, b1, b2⟩ := Fr.bnd (hf f List.mem_cons_self)
    have hb : f.b.natAbs ≤ 2 ^ 40 := by
      have : f.b.natAbs ≤ 1000000000000 := by omega
      exact Nat.le_trans this (by decide)
    have h2 := lcm_le_mul' u f.b.natAbs hu (by omega)
    have h3 : Nat.lcm u f.b.natAbs ≤ 2 ^ (k + 40) := Nat.le_trans h2 (by rw [Nat.pow_add]; exact Nat.mul_le_mul h hb)
    have := UN_le fs _ (k + 40) (Nat.lcm_pos hu (by omega)) h3 fun g hg => hf g (List.mem_cons_of_mem _ hg)
    rw [UN_cons, List.length_cons, show k + 40 * (fs.length + 1) = k + 40 + 40 * fs.length by omega]
    exact this
theorem lcm2_nat (u : Nat) (b : Int) : lcm2 (u : Int) b = Nat.lcm u b.natAbs := by
  unfold lcm2
  rw [Int.natAbs_natCast, Nat.lcm_one_left]
theorem lcmOK2_of {u : Nat} {b : Int} {k : Nat} (hu : u < 2 ^ k) (hu0 : 0 < u) (hk : k ≤ 1000) (hb : b.natAbs < 2 ^ 40) (hb0 : 0 < b.natAbs) : lcmOK2 u b := by
  have h40 : (2 : Nat) ^ 40 ≤ 2 ^ (k + 40) := Nat.pow_le_pow_right (by decide) (by omega)
  have hk40 : (2 : Nat) ^ k ≤ 2 ^ (k + 40) := Nat.pow_le_pow_right (by decide) (by omega)
  have h2 := lcm_le_mul' u b.natAbs hu0 hb0
  have h3 : u * b.natAbs < 2 ^ k * 2 ^ 40 := Nat.mul_lt_mul_of_lt_of_le hu (Nat.le_of_lt hb) (by decide)
  rw [← Nat.pow_add] at h3
  refine ⟨?_, ?_, ?_⟩
  · refine Nat.le_trans (log2_le_of (k := k + 40) ?_) (by omega)
    rw [Int.natAbs_natCast]
    have : max 1 u = u := by omega
    rw [this]
    exact Nat.lt_of_lt_of_le hu hk40
  · refine Nat.le_trans (log2_le_of (k := k + 40) ?_) (by omega)
    rw [Int.natAbs_natCast]
    exact Nat.max_lt.mpr ⟨Nat.lt_of_lt_of_le hu hk40, Nat.lt_of_lt_of_le hb h40⟩
  · rw [lcm2_nat, Int.natAbs_natCast]
    refine Nat.lt_of_le_of_lt (Nat.le_trans (log2_le_of (k := k + 40) (Nat.lt_of_le_of_lt h2 h3)) (show k + 40 ≤ 1040 by omega)) ?_
    decide
theorem lefts_loop (e3 e4 : Option D) : ∀ (fs : List Fr) (u k : Nat) (v : D) (e2 : Option D) (n : Nat), 0 < u → u < 2 ^ k → k + 40 * fs.length ≤ 1000 → (∀ f ∈ fs, f.okB = true) →
    ∃ e2', dFor (gNm 2) (sSet 1 (dUnA hLcm2 (dAs [(dVar 1), (dBin hIx (dVar 2) (dC (.int 1)))]))) (fs.map Fr.d) [some v, some (.int u), e2, e3, e4] n = some (.nx [some v, some (.int (UN u fs : Nat)), e2', e3, e4], n)
  | [], u, k, v, e2, n, _, _, _, _ => ⟨e2, rfl⟩
  | f :: fs, u, k, v, e2, n, hu, h, hk, hf => by
    obtain ⟨_, _, b1, b2⟩ := Fr.bnd (hf f List.mem_cons_self)
    have hb : f.b.natAbs < 2 ^ 40 := by
      have : f.b.natAbs ≤ 1000000000000 := by omega
      exact Nat.lt_of_le_of_lt this (by decide)
    rw [List.length_cons] at hk
    have ok := lcmOK2_of (b := f.b) h hu (by omega) hb (by omega)
    have h2 := lcm_le_mul' u f.b.natAbs hu (by omega)
    have h3 : u * f.b.natAbs < 2 ^ k * 2 ^ 40 := Nat.mul_lt_mul_of_lt_of_le h (Nat.le_of_lt hb) (by decide)
    rw [← Nat.pow_add] at h3
    obtain ⟨e2', ih⟩ := lefts_loop e3 e4 fs (Nat.lcm u f.b.natAbs) (k + 40) v (some f.d) n (Nat.lcm_pos hu (by omega)) (Nat.lt_of_le_of_lt h2 h3) (by omega) fun g hg => hf g (List.mem_cons_of_mem _ hg)
    refine ⟨e2', ?_⟩
    rw [List.map_cons, UN_cons]
    unfold dFor
    simp [hLcm2, ok, lcm2_nat, ih]
def UF (fs : List Fr) : Int := (UN 1 fs : Nat)
/-- a left, times the multiple -/
def LU (U : Int) (f : Fr) : Int := f.a * (U / f.b)
theorem whole_lefts_eq (ns : List Int) (fs : List Fr) (n : Nat) (hl : fs.length ≤ 10) (hf : ∀ f ∈ fs, f.okB = true) : m_whole_lefts ns [.tuple (fs.map Fr.d)] n = some (.tuple [.int (UF fs), .list (fs.map fun f => .int (LU (UF fs) f))], n) := by
  obtain ⟨e2, h1⟩ := lefts_loop none none fs 1 1 (.tuple (fs.map Fr.d)) none n (by decide) (by decide) (by omega) hf
  have hc : dComp (gTp [gNm 3, gNm 4]) dYes (dBin hMul (dVar 3) (dBin hFdiv (dVar 1) (dVar 4))) [some (.tuple (fs.map Fr.d)), some (.int (UF fs)), e2, none, none] (fs.map Fr.d) n = some (fs.map fun f => .int (LU (UF fs) f), n) := by
    have := dComp_map (g := gTp [gNm 3, gNm 4]) (f := dBin hMul (dVar 3) (dBin hFdiv (dVar 1) (dVar 4))) (ρ := [some (.tuple (fs.map Fr.d)), some (.int (UF fs)), e2, none, none]) (p := fun d => match d with | .tuple [.int x, .int y] => .int (LU (UF fs) ⟨x, y⟩) | _ => .none) (fs.map Fr.d) n (by
      intro d hd m
      obtain ⟨f, hm, rfl⟩ := List.mem_map.mp hd
      obtain ⟨a1, a2, b1, b2⟩ := Fr.bnd (hf f hm)
      refine ⟨[some (.tuple (fs.map Fr.d)), some (.int (UF fs)), e2, some (.int f.a), some (.int f.b)], by simp [Fr.d], ?_, rfl⟩
      have hb : f.b.natAbs.log2 < 9000 := Nat.lt_of_le_of_lt (log2_le_of (k := 40) (Nat.lt_of_le_of_lt (show f.b.natAbs ≤ 1000000000000 by omega) (by decide))) (by decide)
      have h0 : 0 < f.b := by omega
      have m1 : -(18446744073709551616 : Int) < f.a := by omega
      have m2 : f.a < (18446744073709551616 : Int) := by omega
      simp [Fr.d, LU, hb, h0, m1, m2])
    rw [this, List.map_map]
    rfl
  have hlim : fs.length ≤ 16777216 := by omega
  unfold m_whole_lefts
  refine fnD_of rfl (sSeq_to (ρ1 := [some (.tuple (fs.map Fr.d)), some (.int 1), none, none, none]) (n1 := n) (by simp) (sSeq_to (sFor_of (ds := fs.map Fr.d) (n1 := n) (by simp) h1) (sRet_of ?_)))
  have hu : (UN 1 fs : Int) = UF fs := rfl
  rw [hu]
  simp [hlim, hc]
end DL
namespace DL
open PySem PySem.Spec PyProof.Rows L2
theorem atI_nat {α : Type} {l : List α} {i : Nat} {a : α} (h : l[i]? = some a) : atI l (i : Int) = some a := by
  have hl := (List.getElem?_eq_some_iff.mp h).1
  unfold atI ixN
  rw [if_pos (by omega), if_pos (by omega)]
  exact h
theorem dFor_all {g : TgD} {S : SDen} (Iv : DEnv → Prop) (ok : Nat → Bool) (r : D) (n : Nat) : ∀ (N lo : Nat) (ρ : DEnv), Iv ρ →
    (∀ i, lo ≤ i → i < lo + N → ∀ ρ, Iv ρ → ∃ ρ1, g (.int i) ρ = some ρ1 ∧ ((ok i = true ∧ ∃ ρ2, S ρ1 n = some (.nx ρ2, n) ∧ Iv ρ2) ∨ (ok i = false ∧ S ρ1 n = some (.rt r, n)))) →
    (((List.range' lo N).all ok = true ∧ ∃ ρ2, dFor g S (rangeD lo N) ρ n = some (.nx ρ2, n) ∧ Iv ρ2) ∨ ((List.range' lo N).all ok = false ∧ dFor g S (rangeD lo N) ρ n = some (.rt r, n)))
  | 0, lo, ρ, h, _ => .inl ⟨rfl, ρ, rfl, h⟩
  | N + 1, lo, ρ, h, st => by
    obtain ⟨ρ1, h1, h2⟩ := st lo (Nat.le_refl _) (by omega) ρ h
    rw [dComp_range.rangeD_succ', List.range'_succ, List.all_cons]
    rcases h2 with ⟨a, ρ2, h2, h3⟩ | ⟨a, h2⟩
    · have ih := dFor_all Iv ok r n N (lo + 1) ρ2 h3 fun i p q => st i (by omega) (by omega)
      rw [Int.natCast_add, Int.natCast_one] at ih
      rw [a, Bool.true_and]
      unfold dFor
      rw [h1]
      simp only [h2]
      exact ih
    · right
      rw [a, Bool.false_and]
      refine ⟨rfl, ?_⟩
      unfold dFor
      rw [h1]
      simp only [h2]
/-! ### turns -/
def tt (U : Int) (b : TB) (l : Int) : Int := b.t * (2 * l + b.w * U)
def TT (U : Int) (bs : List TB) (ls : List Int) : List Int := List.zipWith (tt U) bs ls
theorem zipD_tb : ∀ (bs : List TB) (ls : List Int), zipD (bs.map TB.d) (ls.map .int) = (List.zip bs ls).map fun p => .tuple [p.1.d, .int p.2]
  | [], _ => by simp [zipD]
  | _ :: _, [] => by simp [zipD]
  | b :: bs, l :: ls => by
    rw [List.map_cons, List.map_cons, List.zip_cons_cons, List.map_cons]
    unfold zipD
    rw [zipD_tb bs ls]
theorem TT_map (U : Int) : ∀ (bs : List TB) (ls : List Int), (List.zip bs ls).map (fun p => PyData.int (tt U p.1 p.2)) = (TT U bs ls).map .int
  | [], _ => by simp [TT]
  | _ :: _, [] => by simp [TT]
  | b :: bs, l :: ls => by
    have := TT_map U bs ls
    unfold TT at this ⊢
    rw [List.zip_cons_cons, List.map_cons, this, List.zipWith_cons_cons, List.map_cons]
theorem turns_eq (ns : List Int) (bs : List TB) (ls : List Int) (U : Int) (n : Nat) (hb : ∀ b ∈ bs, b.ok) (hl : bs.length ≤ 1000) (he : ls.length = bs.length) : m_twice_turns_from ns [.tuple (bs.map TB.d), .list (ls.map .int), .int U] n = some (.list ((List.range' 0 bs.length).map fun k => .int ((TT U bs ls).drop k).sum), n) := by
  have hc : dComp (gTp [(gTp [(gNm 4), (gNm 5)]), (gNm 6)]) dYes (dBin hMul (dVar 5) (dBin hAdd (dBin hMul (dC (.int 2)) (dVar 6)) (dBin hMul (dVar 4) (dVar 2)))) [some (.tuple (bs.map TB.d)), some (.list (ls.map .int)), some (.int U), none, none, none, none, none] (zipD (bs.map TB.d) (ls.map .int)) n = some ((TT U bs ls).map .int, n) := by
    rw [zipD_tb]
    have := dComp_map (g := gTp [(gTp [(gNm 4), (gNm 5)]), (gNm 6)]) (f := dBin hMul (dVar 5) (dBin hAdd (dBin hMul (dC (.int 2)) (dVar 6)) (dBin hMul (dVar 4) (dVar 2)))) (ρ := [some (.tuple (bs.map TB.d)), some (.list (ls.map .int)), some (.int U), none, none, none, none, none]) (p := fun d => match d with | .tuple [.tuple [.int w, .int t], .int l] => .int (tt U ⟨w, t⟩ l) | _ => .none) ((List.zip bs ls).map fun p => .tuple [p.1.d, .int p.2]) n (by
      intro d hd m
      obtain ⟨⟨b, l⟩, hm, rfl⟩ := List.mem_map.mp hd
      obtain ⟨w0, w1, t0, t1⟩ := hb b (List.of_mem_zip hm).1
      refine ⟨[some (.tuple (bs.map TB.d)), some (.list (ls.map .int)), some (.int U), none, some (.int b.w), some (.int b.t), some (.int l), none], by simp [TB.d], ?_, rfl⟩
      have m1 : -(18446744073709551616 : Int) < b.w := by omega
      have m2 : b.w < (18446744073709551616 : Int) := by omega
      have m3 : -(18446744073709551616 : Int) < b.t := by omega
      have m4 : b.t < (18446744073709551616 : Int) := by omega
      simp [TB.d, tt, m1, m2, m3, m4])
    rw [this, List.map_map]
    rw [← TT_map]
    rfl
  have hz : (zipD (bs.map TB.d) (ls.map .int)).length ≤ 16777216 := by rw [zipD_len, List.length_map]; omega
  have hT : (TT U bs ls).length = bs.length := by unfold TT; rw [List.length_zipWith]; omega
  unfold m_twice_turns_from
  refine fnL_of rfl (sSeq_to (ρ1 := [some (.tuple (bs.map TB.d)), some (.list (ls.map .int)), some (.int U), some (.list ((TT U bs ls).map .int)), none, none, none, none]) (n1 := n) ?_ (sRet_of (fLst_of (dLc_of (ds := rangeD 0 bs.length) (n1 := n) ?_ (by rw [rangeD_len]; omega) ?_))))
  · simp [hz, hc]
  · exact iR1_nat (k := bs.length) (by simp [hT]) (by omega)
  · refine dComp_range n bs.length 0 fun i _ _ => ⟨_, by simp; rfl, ?_, rfl⟩
    have hs := intsD_map id ((TT U bs ls).drop i)
    rw [List.map_id] at hs
    have e : (fun x : Int => PyData.int (id x)) = .int := rfl
    rw [e, List.map_drop] at hs
    simp [cutD_drop, hSum, hs]

/-! ### is_tower -/
/-- the weight, the turns, of block k and those above it; its place in the one below -/
def Wk (bs : List TB) (k : Nat) : Int := WT (bs.drop k)
def Tk (U : Int) (bs : List TB) (ls : List Int) (k : Nat) : Int := ((TT U bs ls).drop k).sum
def okP (U : Int) (bs : List TB) (ls : List Int) (k : Nat) : Bool := decide (2 * ls.getD (k - 1) 0 * Wk bs k ≤ Tk U bs ls k) && decide (Tk U bs ls k ≤ 2 * (ls.getD (k - 1) 0 + (bs.getD (k - 1) ⟨0, 0⟩).w * U) * Wk bs k)
def isTow (bs : List TB) (fs : List Fr) : Bool := decide (Tk (UF fs) bs (fs.map (LU (UF fs))) 0 ≤ 0) && (List.range' 1 (bs.length - 1)).all (okP (UF fs) bs (fs.map (LU (UF fs))))
theorem check_blocks_eq (ns : List Int) (bs : List TB) (n : Nat) (hb : ∀ b ∈ bs, b.ok) (h1 : 1 ≤ bs.length) (h5 : bs.length ≤ 5) : m_check_blocks ns [.tuple (bs.map TB.d)] n = some (.none, n) := by
  have ht := isi_tuple (.tuple (bs.map TB.d)) rfl
  have hk : k_MOST_BLOCKS = .int 5 := rfl
  have hc : dComp (gNm 1) dYes (dCall (m_is_tower_block ns) (dAs [dVar 1])) [some (.tuple (bs.map TB.d)), none] (bs.map TB.d) n = some ((bs.map TB.d).map fun _ => .bool true, n) := by
    rw [dComp_map (p := fun _ => .bool true)]
    intro d hd m
    obtain ⟨b, hm, rfl⟩ := List.mem_map.mp hd
    exact ⟨[some (.tuple (bs.map TB.d)), some b.d], by simp, by simp [is_tower_block_eq ns b m (hb b hm)], rfl⟩
  have hbl := bools_map (fun _ : D => true) (bs.map TB.d)
  have ha : ((bs.map TB.d).map fun _ => true).all id = true := by simp
  have a1 : (1 : Int) ≤ bs.length := by omega
  have a2 : (bs.length : Int) ≤ 5 := by omega
  have hlim : bs.length ≤ 16777216 := by omega
  unfold m_check_blocks
  have hB : m_are_blocks ns [.tuple (bs.map TB.d)] n = some (.bool true, n) := by
    unfold m_are_blocks
    rw [hk]
    simp [ht, isTy, a1, a2, hlim, hc]
    simp at hbl
    simp [hbl]
  generalize m_are_blocks ns = G at hB ⊢
  simp [hB]
end DL
namespace DL
open PySem PySem.Spec PyProof.Rows L2
theorem fracs_comp (ns : List Int) (fs : List Fr) (v : D) (n : Nat) (e0 e3 e4 e5 e6 e7 e8 e9 : Option D) : dComp (gNm 2) dYes (dCall (m_is_fraction ns) (dAs [dVar 2])) [e0, some v, none, e3, e4, e5, e6, e7, e8, e9] (fs.map Fr.d) n = some ((fs.map Fr.okB).map .bool, n) := by
  rw [dComp_map (p := fun d => match d with | .tuple [.int x, .int y] => .bool (Fr.okB ⟨x, y⟩) | _ => .none)]
  · rw [List.map_map, List.map_map]
    rfl
  · intro d hd m
    obtain ⟨f, hm, rfl⟩ := List.mem_map.mp hd
    exact ⟨[e0, some v, some f.d, e3, e4, e5, e6, e7, e8, e9], by simp, by simp [is_fraction_eq]; rfl, rfl⟩
theorem getD_of {α : Type} {l : List α} {i : Nat} {d : α} (h : i < l.length) : l[i]? = some (l.getD i d) := by
  rw [List.getD_eq_getElem?_getD, List.getElem?_eq_getElem h]
  rfl
def towS : SDen := (sSeq (sSet 8 (dBin hIx (dVar 4) (dBin hSubI (dVar 7) (dC (.int 1))))) (sSeq (sSet 9 (dBin hAdd (dVar 8) (dBin hMul (dBin hIx (dBin hIx (dVar 0) (dBin hSubI (dVar 7) (dC (.int 1)))) (dC (.int 0))) (dVar 3)))) (sIf (dNot (dTest (dChain hLe hLe (dBin hMul (dBin hMul (dC (.int 2)) (dVar 8)) (dBin hIx (dVar 5) (dVar 7))) (dBin hIx (dVar 6) (dVar 7)) (dBin hMul (dBin hMul (dC (.int 2)) (dVar 9)) (dBin hIx (dVar 5) (dVar 7)))))) (sRet (dC (.bool false))) sNil)))
def towE (bs : List TB) (v : D) (U : Int) (ls : List Int) (e2 e7 e8 e9 : Option D) : DEnv := [some (.tuple (bs.map TB.d)), some v, e2, some (.int U), some (.list (ls.map .int)), some (.list ((List.range' 0 bs.length).map fun k => .int (Wk bs k))), some (.list ((List.range' 0 bs.length).map fun k => .int (Tk U bs ls k))), e7, e8, e9]
theorem Wk_bnd (bs : List TB) (hb : ∀ b ∈ bs, b.ok) : ∀ k, 0 ≤ Wk bs k ∧ Wk bs k ≤ 9 * bs.length := by
  have key : ∀ l : List TB, (∀ b ∈ l, b.ok) → 0 ≤ WT l ∧ WT l ≤ 9 * l.length := by
    intro l
    induction l with
    | nil => intro _; exact ⟨by simp [WT], by simp [WT]⟩
    | cons b l ih =>
      intro h
      have h1 := ih fun x hx => h x (List.mem_cons_of_mem _ hx)
      obtain ⟨_, _, t0, t1⟩ := h b List.mem_cons_self
      simp only [WT, List.map_cons, List.sum_cons, List.length_cons] at h1 ⊢
      omega
  intro k
  have := key (bs.drop k) fun b hb' => hb b (List.mem_of_mem_drop hb')
  rw [List.length_drop] at this
  unfold Wk
  omega
theorem tow_loop (bs : List TB) (v : D) (U : Int) (ls : List Int) (e2 : Option D) (n : Nat) (hb : ∀ b ∈ bs, b.ok) (h5 : bs.length ≤ 100) (he : ls.length = bs.length) (h1 : 1 ≤ bs.length) :
    (((List.range' 1 (bs.length - 1)).all (okP U bs ls) = true ∧ ∃ ρ2, dFor (gNm 7) towS (rangeD ((1 : Nat) : Int) (bs.length - 1)) (towE bs v U ls e2 none none none) n = some (.nx ρ2, n) ∧ ∃ e7 e8 e9, ρ2 = towE bs v U ls e2 e7 e8 e9) ∨
     ((List.range' 1 (bs.length - 1)).all (okP U bs ls) = false ∧ dFor (gNm 7) towS (rangeD ((1 : Nat) : Int) (bs.length - 1)) (towE bs v U ls e2 none none none) n = some (.rt (.bool false), n))) := by
  refine dFor_all (fun ρ => ∃ e7 e8 e9, ρ = towE bs v U ls e2 e7 e8 e9) (okP U bs ls) (.bool false) n (bs.length - 1) 1 _ ⟨_, _, _, rfl⟩ ?_
  rintro i i1 i2 ρ ⟨e7, e8, e9, rfl⟩
  have hi : i < bs.length := by omega
  have hi' : i - 1 < bs.length := by omega
  have e1 : ((i : Int) - 1) = ((i - 1 : Nat) : Int) := by omega
  have x1 : atI (ls.map PyData.int) ((i - 1 : Nat) : Int) = some (.int (ls.getD (i - 1) 0)) := atI_nat (by rw [List.getElem?_map, getD_of (d := 0) (by omega)]; rfl)
  have x2 : atI (bs.map TB.d) ((i - 1 : Nat) : Int) = some (bs.getD (i - 1) ⟨0, 0⟩).d := atI_nat (by rw [List.getElem?_map, getD_of (d := ⟨0, 0⟩) (by omega)]; rfl)
  have x3 : atI ((List.range' 0 bs.length).map fun k => PyData.int (Wk bs k)) (i : Int) = some (.int (Wk bs i)) := atI_nat (by rw [List.getElem?_map, List.getElem?_range' hi]; simp)
  have x4 : atI ((List.range' 0 bs.length).map fun k => PyData.int (Tk U bs ls k)) (i : Int) = some (.int (Tk U bs ls i)) := atI_nat (by rw [List.getElem?_map, List.getElem?_range' hi]; simp)
  obtain ⟨w0, w1⟩ := Wk_bnd bs hb i
  have hbm : (bs.getD (i - 1) ⟨0, 0⟩).ok := hb _ (by rw [List.getD_eq_getElem?_getD, List.getElem?_eq_getElem hi']; exact List.getElem_mem _)
  obtain ⟨v0, v1, _, _⟩ := hbm
  generalize hW : Wk bs i = W at x3 w0 w1
  generalize hT : Tk U bs ls i = T at x4
  generalize hl : ls.getD (i - 1) 0 = l at x1
  generalize hB : bs.getD (i - 1) ⟨0, 0⟩ = b at x2 v0 v1
  have m1 : -(18446744073709551616 : Int) < W := by omega
  have m2 : W < (18446744073709551616 : Int) := by omega
  have m3 : -(18446744073709551616 : Int) < b.w := by omega
  have m4 : b.w < (18446744073709551616 : Int) := by omega
  have hok : okP U bs ls i = (decide (2 * l * W ≤ T) && decide (T ≤ 2 * (l + b.w * U) * W)) := by
    unfold okP
    rw [hW, hT, hl, hB]
  rw [hok]
  refine ⟨towE bs v U ls e2 (some (.int i)) e8 e9, by simp [towE], ?_⟩
  by_cases q1 : 2 * l * W ≤ T
  · by_cases q2 : T ≤ 2 * (l + b.w * U) * W
    · left
      exact ⟨by simp [q1, q2], towE bs v U ls e2 (some (.int i)) (some (.int l)) (some (.int (l + b.w * U))), by simp [towS, towE, e1, x1, x2, x3, x4, m1, m2, m3, m4, q1, q2], _, _, _, rfl⟩
    · right
      exact ⟨by simp [q2], by simp [towS, towE, e1, x1, x2, x3, x4, m1, m2, m3, m4, q1, q2]⟩
  · right
    exact ⟨by simp [q1], by simp [towS, towE, e1, x1, x2, x3, x4, m1, m2, m3, m4, q1]⟩
end DL
namespace DL
open PySem PySem.Spec PyProof.Rows L2
theorem UF_pos (fs : List Fr) (hf : ∀ f ∈ fs, f.okB = true) : 0 < UF fs := by
  have := UN_pos fs 1 (by decide) hf
  unfold UF
  omega
theorem UF_dvd (fs : List Fr) (hf : ∀ f ∈ fs, f.okB = true) (f : Fr) (h : f ∈ fs) : f.b * (UF fs / f.b) = UF fs := by
  have h1 := UN_dvd fs 1 f h
  obtain ⟨_, _, b0, _⟩ := Fr.bnd (hf f h)
  refine Int.mul_ediv_cancel' ?_
  unfold UF
  rw [← Int.natAbs_dvd]
  exact Int.natCast_dvd_natCast.mpr h1
theorem iR2_nat {f g : DEnv → M D} {ρ : DEnv} {n a b : Nat} (h1 : f ρ n = some (.int (a : Nat), n)) (h2 : g ρ n = some (.int (b : Nat), n)) (ha : a ≤ 1000000) (hb : b ≤ 1000000) : iR2 (dAs [f, g]) ρ n = some (rangeD (a : Nat) (b - a), n) := by
  unfold iR2 dAs
  rw [h1]
  simp only [dAs]
  rw [h2]
  simp only
  rw [if_pos (by omega)]
  congr 2
  congr 1
  omega
theorem sSeq_rt {S T : SDen} {ρ : DEnv} {n n1 : Nat} {d : D} (h : S ρ n = some (.rt d, n1)) : sSeq S T ρ n = some (.rt d, n1) := by
  unfold sSeq
  rw [h]
theorem dUnA1 {h : List D → Option D} {f : DEnv → M D} {ρ : DEnv} {n n' : Nat} {x z : D} (h1 : f ρ n = some (x, n')) (h2 : h [x] = some z) : dUnA h (dAs [f]) ρ n = some (z, n') := by
  unfold dUnA dAs
  rw [h1]
  simp only [dAs]
  rw [h2]
theorem bools_bool (l : List Bool) : bools (l.map .bool) = some l := by
  have := bools_map id l
  rw [List.map_id] at this
  exact this
theorem hAll_bool (l : List Bool) : hAll [.list (l.map .bool)] = some (.bool (l.all id)) := by
  rw [hAll_l, bools_bool]
theorem hAny_bool (l : List Bool) : hAny [.list (l.map .bool)] = some (.bool (l.any id)) := by
  rw [hAny_l, bools_bool]
theorem sSet_call {i : Nat} {m : List D → M D} {A : DEnv → M (List D)} {ρ ρ1 : DEnv} {n n1 n2 : Nat} {as : List D} {d : D} (h1 : A ρ n = some (as, n1)) (h2 : m as n1 = some (d, n2)) (h3 : ρ.set i (some d) = ρ1) : sSet i (dCall m A) ρ n = some (.nx ρ1, n2) := by
  unfold sSet dCall
  rw [h1]
  simp only
  rw [h2]
  subst h3
  rfl
theorem is_tower_eq (ns : List Int) (bs : List TB) (fs : List Fr) (n : Nat) (hb : ∀ b ∈ bs, b.ok) (h1 : 1 ≤ bs.length) (h5 : bs.length ≤ 5) (he : fs.length = bs.length) (hf : ∀ f ∈ fs, f.okB = true) :
    m_is_tower ns [.tuple (bs.map TB.d), .tuple (fs.map Fr.d)] n = some (.bool (isTow bs fs), n) := by
  have c1 := check_blocks_eq ns bs n hb h1 h5
  have ht : m_is_tuple ns [.tuple (fs.map Fr.d), .int bs.length] n = some (.bool true, n) := by
    have := isty_len ns (.tuple (fs.map Fr.d)) bs.length n rfl
    simpa [he] using this
  have hfc := fracs_comp ns fs (.tuple (fs.map Fr.d)) n (some (.tuple (bs.map TB.d))) none none none none none none none
  have hall : (fs.map Fr.okB).all id = true := by rw [List.all_map]; exact List.all_eq_true.mpr fun f h => hf f h
  have hl1 : (fs.map Fr.d).length ≤ 16777216 := by rw [List.length_map]; omega
  have hA := dUnA1 (dLc_of (it := iT (dVar 1)) (vs := [2]) (ρ := [some (.tuple (bs.map TB.d)), some (.tuple (fs.map Fr.d)), none, none, none, none, none, none, none, none]) (n := n) (by simp) hl1 hfc) (hAll_bool (fs.map Fr.okB))
  rw [hall] at hA
  have hw := whole_lefts_eq ns fs n (by omega) hf
  have hW : m_weights_from ns [.tuple (bs.map TB.d)] n = some (.list ((List.range' 0 bs.length).map fun k => .int (Wk bs k)), n) := weights_from_eq ns bs n (by omega)
  have hT := turns_eq ns bs (fs.map (LU (UF fs))) (UF fs) n hb (by omega) (by rw [List.length_map]; exact he)
  have hls : (fs.map fun f => PyData.int (LU (UF fs) f)) = (fs.map (LU (UF fs))).map .int := by rw [List.map_map]; rfl
  rw [hls] at hw
  generalize hU : UF fs = U at hw hT
  generalize hL : fs.map (LU U) = ls at hw hT
  have hll : ls.length = bs.length := by rw [← hL, List.length_map]; exact he
  have loop := tow_loop bs (.tuple (fs.map Fr.d)) U ls none n hb (by omega) hll h1
  have x0 : atI ((List.range' 0 bs.length).map fun k => PyData.int (Tk U bs ls k)) 0 = some (.int (Tk U bs ls 0)) := by
    have := atI_nat (l := (List.range' 0 bs.length).map fun k => PyData.int (Tk U bs ls k)) (i := 0) (a := .int (Tk U bs ls 0)) (by rw [List.getElem?_map, List.getElem?_range' (by omega)]; simp)
    exact this
  have hr2 : iR2 (dAs [(dC (.int 1)), (dUnA hLen (dAs [(dVar 0)]))]) (towE bs (.tuple (fs.map Fr.d)) U ls none none none none) n = some (rangeD ((1 : Nat) : Int) (bs.length - 1), n) := by
    have := iR2_nat (f := dC (.int 1)) (g := dUnA hLen (dAs [(dVar 0)])) (ρ := towE bs (.tuple (fs.map Fr.d)) U ls none none none none) (n := n) (a := 1) (b := bs.length) rfl (by simp [towE]) (by decide) (by omega)
    exact this
  unfold isTow
  rw [hU, hL]
  unfold m_is_tower
  refine fnD_of rfl (sSeq_to (ρ1 := [some (.tuple (bs.map TB.d)), some (.tuple (fs.map Fr.d)), none, none, none, none, none, none, none, none]) (n1 := n) (by simp [c1]) (sSeq_to (ρ1 := [some (.tuple (bs.map TB.d)), some (.tuple (fs.map Fr.d)), none, none, none, none, none, none, none, none]) (n1 := n) ?_
    (sSeq_to (ρ1 := [some (.tuple (bs.map TB.d)), some (.tuple (fs.map Fr.d)), none, some (.int U), some (.list (ls.map .int)), none, none, none, none, none]) (n1 := n) ?_
    (sSeq_to (ρ1 := [some (.tuple (bs.map TB.d)), some (.tuple (fs.map Fr.d)), none, some (.int U), some (.list (ls.map .int)), some (.list ((List.range' 0 bs.length).map fun k => .int (Wk bs k))), none, none, none, none]) (n1 := n) ?_
    (sSeq_to (ρ1 := towE bs (.tuple (fs.map Fr.d)) U ls none none none none) (n1 := n) ?_ ?_)))))
  · generalize dUnA hAll (dAs [dLc (iT (dVar 1)) [2] (gNm 2) dYes (dCall (m_is_fraction ns) (dAs [dVar 2]))]) = Z at hA ⊢
    simp [ht, hA]
  · simp [hw]
  · exact sSet_call rfl hW rfl
  · have e : (fun k => PyData.int (Tk U bs ls k)) = fun k => .int ((TT U bs ls).drop k).sum := rfl
    unfold towE
    rw [e]
    simp [hT]
  · by_cases q0 : Tk U bs ls 0 ≤ 0
    · have q0' : ¬ 0 < Tk U bs ls 0 := by omega
      refine sSeq_to (ρ1 := towE bs (.tuple (fs.map Fr.d)) U ls none none none none) (n1 := n) (by simp [towE, x0, q0']) ?_
      rcases loop with ⟨a, ρ2, h2, e7, e8, e9, rfl⟩ | ⟨a, h2⟩
      · rw [a]
        refine sSeq_to (sFor_of hr2 h2) ?_
        simp [q0]
      · rw [a]
        rw [Bool.and_false]
        exact sSeq_rt (sFor_of hr2 h2)
    · have q0' : 0 < Tk U bs ls 0 := by omega
      simp [towE, x0, q0', q0]
end DL
namespace DL
open PySem PySem.Spec PyProof.Rows L2
/-! ### reaches: the common weight -/
def lcmW (u : Nat) (ws : List Int) : Nat := ws.foldl (fun u w => Nat.lcm u w.natAbs) u
theorem lcmW_cons (u : Nat) (w : Int) (ws : List Int) : lcmW u (w :: ws) = lcmW (Nat.lcm u w.natAbs) ws := rfl
theorem lcmW_pos : ∀ (ws : List Int) (u : Nat), 0 < u → (∀ w ∈ ws, 1 ≤ w) → 0 < lcmW u ws
  | [], _, h, _ => h
  | w :: ws, u, h, hw => lcmW_pos ws _ (Nat.lcm_pos h (by have := hw w List.mem_cons_self; omega)) fun g hg => hw g (List.mem_cons_of_mem _ hg)
theorem lcmW_dvd0 : ∀ (ws : List Int) (u : Nat), u ∣ lcmW u ws
  | [], u => Nat.dvd_refl u
  | w :: ws, u => Nat.dvd_trans (Nat.dvd_lcm_left u _) (lcmW_dvd0 ws _)
theorem lcmW_dvd : ∀ (ws : List Int) (u : Nat) (w : Int), w ∈ ws → w.natAbs ∣ lcmW u ws
  | [], _, _, h => nomatch h
  | g :: ws, u, w, h => by
    rcases List.mem_cons.mp h with rfl | h
    · exact Nat.dvd_trans (Nat.dvd_lcm_right u _) (lcmW_dvd0 ws _)
    · exact lcmW_dvd ws _ w h
theorem lcmW_le : ∀ (ws : List Int) (u B : Nat), 0 < u → u ≤ B → (∀ w ∈ ws, 1 ≤ w ∧ w ≤ 45) → lcmW u ws ≤ B * 45 ^ ws.length
  | [], u, B, _, h, _ => by simpa [lcmW] using h
  | w :: ws, u, B, hu, h, hw => by
    obtain ⟨b1, b2⟩ := hw w List.mem_cons_self
    have h2 := lcm_le_mul' u w.natAbs hu (by omega)
    have h3 : Nat.lcm u w.natAbs ≤ B * 45 := Nat.le_trans h2 (Nat.mul_le_mul h (by omega))
    have := lcmW_le ws _ (B * 45) (Nat.lcm_pos hu (by omega)) h3 fun g hg => hw g (List.mem_cons_of_mem _ hg)
    rw [lcmW_cons, List.length_cons, Nat.pow_succ, Nat.mul_comm (45 ^ _) 45, ← Nat.mul_assoc]
    exact this
theorem common_loop (v : D) : ∀ (ws : List Int) (u k : Nat) (e2 : Option D) (n : Nat), 0 < u → u < 2 ^ k → k + 40 * ws.length ≤ 1000 → (∀ w ∈ ws, 1 ≤ w ∧ w ≤ 45) →
    ∃ e2', dFor (gNm 2) (sSet 1 (dUnA hLcm2 (dAs [(dVar 1), (dVar 2)]))) (ws.map .int) [some v, some (.int u), e2] n = some (.nx [some v, some (.int (lcmW u ws : Nat)), e2'], n)
  | [], u, k, e2, n, _, _, _, _ => ⟨e2, rfl⟩
  | w :: ws, u, k, e2, n, hu, h, hk, hf => by
    obtain ⟨b1, b2⟩ := hf w List.mem_cons_self
    have hb : w.natAbs < 2 ^ 40 := Nat.lt_of_le_of_lt (show w.natAbs ≤ 45 by omega) (by decide)
    rw [List.length_cons] at hk
    have ok := lcmOK2_of (b := w) h hu (by omega) hb (by omega)
    have h2 := lcm_le_mul' u w.natAbs hu (by omega)
    have h3 : u * w.natAbs < 2 ^ k * 2 ^ 40 := Nat.mul_lt_mul_of_lt_of_le h (Nat.le_of_lt hb) (by decide)
    rw [← Nat.pow_add] at h3
    obtain ⟨e2', ih⟩ := common_loop v ws (Nat.lcm u w.natAbs) (k + 40) (some (.int w)) n (Nat.lcm_pos hu (by omega)) (Nat.lt_of_le_of_lt h2 h3) (by omega) fun g hg => hf g (List.mem_cons_of_mem _ hg)
    refine ⟨e2', ?_⟩
    rw [List.map_cons, lcmW_cons]
    unfold dFor
    simp [hLcm2, ok, lcm2_nat, ih]
def wts (bs : List TB) : List Int := (List.range' 0 bs.length).map (Wk bs)
def CN (bs : List TB) : Nat := lcmW 1 (wts bs)
def CW (bs : List TB) : Int := (CN bs : Nat)
theorem WT_pos : ∀ (bs : List TB), (∀ b ∈ bs, b.ok) → bs ≠ [] → 0 < WT bs
  | [], _, h => absurd rfl h
  | b :: bs, hb, _ => by
    obtain ⟨_, _, t0, _⟩ := hb b List.mem_cons_self
    have : 0 ≤ WT bs := (Wk_bnd bs (fun x hx => hb x (List.mem_cons_of_mem _ hx)) 0).1
    simp only [WT, List.map_cons, List.sum_cons] at this ⊢
    omega
theorem wts_bnd (bs : List TB) (hb : ∀ b ∈ bs, b.ok) (h5 : bs.length ≤ 5) : ∀ w ∈ wts bs, 1 ≤ w ∧ w ≤ 45 := by
  intro w hw
  obtain ⟨k, hk, rfl⟩ := List.mem_map.mp hw
  rw [List.mem_range'_1] at hk
  have h1 := Wk_bnd bs hb k
  have h2 : 0 < Wk bs k := WT_pos (bs.drop k) (fun b h => hb b (List.mem_of_mem_drop h)) (by intro e; have := congrArg List.length e; simp at this; omega)
  omega
theorem common_ap (G : List D → M D) (v : D) (L : List D) (c : D) (n : Nat) (e2 : Option D) (h1 : G [v] n = some (.list L, n)) (h2 : dFor (gNm 2) (sSet 1 (dUnA hLcm2 (dAs [(dVar 1), (dVar 2)]))) L [some v, some (.int ((1 : Nat) : Int)), none] n = some (.nx [some v, some c, e2], n)) :
    fnD 3 (sSeq (sSet 1 (dC (.int 1))) (sSeq (sFor (iL (dCall G (dAs [(dVar 0)]))) (gNm 2) (sSet 1 (dUnA hLcm2 (dAs [(dVar 1), (dVar 2)])))) (sRet (dVar 1)))) [v] n = some (c, n) := by
  refine fnD_of (ρ := [some v, none, none]) rfl (sSeq_to (ρ1 := [some v, some (.int ((1 : Nat) : Int)), none]) (n1 := n) rfl (sSeq_to (sFor_of (ds := L) (n1 := n) ?_ h2) rfl))
  simp [h1]
theorem common_eq (ns : List Int) (bs : List TB) (n : Nat) (hb : ∀ b ∈ bs, b.ok) (h5 : bs.length ≤ 5) : m_common_weight ns [.tuple (bs.map TB.d)] n = some (.int (CW bs), n) := by
  have hw : m_weights_from ns [.tuple (bs.map TB.d)] n = some (.list ((wts bs).map .int), n) := by
    have := weights_from_eq ns bs n (by omega)
    rw [this]
    unfold wts
    rw [List.map_map]
    rfl
  have hlen : (wts bs).length = bs.length := by unfold wts; simp
  obtain ⟨e2, h⟩ := common_loop (.tuple (bs.map TB.d)) (wts bs) 1 1 none n (by decide) (by decide) (by omega) (wts_bnd bs hb h5)
  have hCW : ((lcmW 1 (wts bs) : Nat) : Int) = CW bs := rfl
  rw [hCW] at h
  exact common_ap _ _ _ _ n _ hw h
theorem CN_pos (bs : List TB) (hb : ∀ b ∈ bs, b.ok) (h5 : bs.length ≤ 5) : 0 < CN bs := lcmW_pos _ 1 (by decide) fun w hw => (wts_bnd bs hb h5 w hw).1
theorem CN_le (bs : List TB) (hb : ∀ b ∈ bs, b.ok) (h5 : bs.length ≤ 5) : CN bs ≤ 184528125 := by
  have h1 := lcmW_le (wts bs) 1 1 (by decide) (by decide) (wts_bnd bs hb h5)
  have hlen : (wts bs).length = bs.length := by unfold wts; simp
  have h2 : (45 : Nat) ^ (wts bs).length ≤ 45 ^ 5 := Nat.pow_le_pow_right (by decide) (by omega)
  have h3 : (45 : Nat) ^ 5 = 184528125 := by decide
  have : CN bs = lcmW 1 (wts bs) := rfl
  omega
theorem CW_dvd (bs : List TB) (hb : ∀ b ∈ bs, b.ok) (k : Nat) (hk : k < bs.length) : WT (bs.drop k) ∣ CW bs := by
  have h := lcmW_dvd (wts bs) 1 (Wk bs k) (List.mem_map_of_mem (by rw [List.mem_range'_1]; omega))
  unfold CW
  have : WT (bs.drop k) = Wk bs k := rfl
  rw [this, ← Int.natAbs_dvd]
  exact Int.natCast_dvd_natCast.mpr h
/-! ### lefts toward a block -/
def LT (num : Nat) (C : Int) : Nat → List TB → Int → List Int
  | _, [], _ => []
  | k, b :: bs, m => (m - (if k < num then b.w * C else -(b.w * C)) * (WT (b :: bs) - b.t) / WT (b :: bs) - b.w * C) :: LT num C (k + 1) bs (m + (if k < num then b.w * C else -(b.w * C)) * b.t / WT (b :: bs))
theorem LT_len (num : Nat) (C : Int) : ∀ (bs : List TB) (k : Nat) (m : Int), (LT num C k bs m).length = bs.length
  | [], _, _ => rfl
  | b :: bs, k, m => by unfold LT; rw [List.length_cons, List.length_cons, LT_len]
def ltS : SDen := (sSeq (sSet 9 (dBin hMul (dVar 7) (dVar 2))) (sSeq (sSet 10 (dIf (dTest (dBin hLt (dVar 6) (dVar 1))) (dVar 9) (dUn hNeg (dVar 9)))) (sSeq (sMut 5 hAppend (dAs [(dBin hSubI (dBin hSubI (dVar 4) (dBin hFdiv (dBin hMul (dVar 10) (dBin hSubI (dBin hIx (dVar 3) (dVar 6)) (dVar 8))) (dBin hIx (dVar 3) (dVar 6)))) (dVar 9))])) (sAug 4 hAddI (dBin hFdiv (dBin hMul (dVar 10) (dVar 8)) (dBin hIx (dVar 3) (dVar 6)))))))
theorem lt_turn (num k : Nat) (C m W : Int) (b : TB) (v : D) (Ws : List D) (acc : List Int) (n : Nat) (e9 e10 : Option D) (hb : b.ok) (hW : 1 ≤ W ∧ W ≤ 45) (hw : atI Ws (k : Int) = some (.int W)) (hl : acc.length ≤ 100) :
    ltS [some v, some (.int num), some (.int C), some (.list Ws), some (.int m), some (.list (acc.map .int)), some (.int k), some (.int b.w), some (.int b.t), e9, e10] n
      = some (.nx [some v, some (.int num), some (.int C), some (.list Ws), some (.int (m + (if k < num then b.w * C else -(b.w * C)) * b.t / W)), some (.list ((acc ++ [m - (if k < num then b.w * C else -(b.w * C)) * (W - b.t) / W - b.w * C]).map .int)), some (.int k), some (.int b.w), some (.int b.t), some (.int (b.w * C)), some (.int (if k < num then b.w * C else -(b.w * C)))], n) := by
  obtain ⟨w0, w1, t0, t1⟩ := hb
  obtain ⟨W0, W1⟩ := hW
  have m1 : -(18446744073709551616 : Int) < b.w := by omega
  have m2 : b.w < (18446744073709551616 : Int) := by omega
  have m3 : -(18446744073709551616 : Int) < b.t := by omega
  have m4 : b.t < (18446744073709551616 : Int) := by omega
  have m5 : -(18446744073709551616 : Int) < W - b.t := by omega
  have m6 : W - b.t < (18446744073709551616 : Int) := by omega
  have d0 : 0 < W := by omega
  have d1 : W < 1073741824 := by omega
  have l1 : acc.length < 16777216 := by omega
  unfold ltS
  by_cases q : k < num
  · simp [m1, m2, m3, m4, m5, m6, d0, d1, l1, hw, q, hAppend]
  · simp [m1, m2, m3, m4, m5, m6, d0, d1, l1, hw, q, hAppend]
end DL
namespace DL
open PySem PySem.Spec PyProof.Rows L2
theorem lt_loop (all : List TB) (num : Nat) (C : Int) (v : D) (n : Nat) (h5 : all.length ≤ 5) (ha : ∀ b ∈ all, b.ok) : ∀ (bs : List TB) (k : Nat) (m : Int) (acc : List Int) (e6 e7 e8 e9 e10 : Option D), all.drop k = bs → acc.length + bs.length ≤ 50 →
    ∃ m' e6' e7' e8' e9' e10', dFor (gTp [(gNm 6), (gTp [(gNm 7), (gNm 8)])]) ltS (enumD k (bs.map TB.d)) [some v, some (.int num), some (.int C), some (.list ((wts all).map .int)), some (.int m), some (.list (acc.map .int)), e6, e7, e8, e9, e10] n
      = some (.nx [some v, some (.int num), some (.int C), some (.list ((wts all).map .int)), m', some (.list ((acc ++ LT num C k bs m).map .int)), e6', e7', e8', e9', e10'], n)
  | [], k, m, acc, e6, e7, e8, e9, e10, _, _ => ⟨_, e6, e7, e8, e9, e10, by unfold LT; rw [List.append_nil]; rfl⟩
  | b :: bs, k, m, acc, e6, e7, e8, e9, e10, hd, hl => by
    have hk : k < all.length := by
      rcases Nat.lt_or_ge k all.length with h | h
      · exact h
      · rw [List.drop_of_length_le h] at hd
        cases hd
    have hb : b ∈ all := List.mem_of_mem_drop (i := k) (by rw [hd]; exact List.mem_cons_self)
    have hd2 : all.drop (k + 1) = bs := by rw [← List.drop_drop, hd]; rfl
    have hW : 1 ≤ WT (b :: bs) ∧ WT (b :: bs) ≤ 45 := by
      have h1 := wts_bnd all ha h5 (Wk all k) (List.mem_map_of_mem (by rw [List.mem_range'_1]; omega))
      have : Wk all k = WT (b :: bs) := by unfold Wk; rw [hd]
      omega
    have hw : atI ((wts all).map PyData.int) (k : Int) = some (.int (WT (b :: bs))) := by
      refine atI_nat ?_
      have : Wk all k = WT (b :: bs) := by unfold Wk; rw [hd]
      unfold wts
      rw [List.getElem?_map, List.getElem?_map, List.getElem?_range' hk]
      simp [this]
    rw [List.length_cons] at hl
    have ht := lt_turn num k C m (WT (b :: bs)) b v ((wts all).map .int) acc n e9 e10 (ha b hb) hW hw (by omega)
    obtain ⟨m', e6', e7', e8', e9', e10', ih⟩ := lt_loop all num C v n h5 ha bs (k + 1) (m + (if k < num then b.w * C else -(b.w * C)) * b.t / WT (b :: bs)) (acc ++ [m - (if k < num then b.w * C else -(b.w * C)) * (WT (b :: bs) - b.t) / WT (b :: bs) - b.w * C]) (some (.int k)) (some (.int b.w)) (some (.int b.t)) (some (.int (b.w * C))) (some (.int (if k < num then b.w * C else -(b.w * C)))) hd2 (by rw [List.length_append, List.length_singleton]; omega)
    refine ⟨m', e6', e7', e8', e9', e10', ?_⟩
    rw [List.map_cons]
    unfold enumD dFor
    have hg : gTp [(gNm 6), (gTp [(gNm 7), (gNm 8)])] (.tuple [.int (k : Nat), b.d]) [some v, some (.int num), some (.int C), some (.list ((wts all).map .int)), some (.int m), some (.list (acc.map .int)), e6, e7, e8, e9, e10] = some [some v, some (.int num), some (.int C), some (.list ((wts all).map .int)), some (.int m), some (.list (acc.map .int)), some (.int k), some (.int b.w), some (.int b.t), e9, e10] := by simp [TB.d]
    rw [hg]
    simp only [ht]
    have e : LT num C k (b :: bs) m = (m - (if k < num then b.w * C else -(b.w * C)) * (WT (b :: bs) - b.t) / WT (b :: bs) - b.w * C) :: LT num C (k + 1) bs (m + (if k < num then b.w * C else -(b.w * C)) * b.t / WT (b :: bs)) := rfl
    rw [List.append_assoc, List.singleton_append, ← e] at ih
    exact ih
theorem lefts_ap (G : List D → M D) (v : D) (num C : Int) (L : List D) (ds : List D) (n : Nat) (r : D) (m' e6 e7 e8 e9 e10 : Option D) (S : SDen) (hv : v = .tuple ds) (h1 : G [v] n = some (.list L, n)) (h2 : dFor (gTp [(gNm 6), (gTp [(gNm 7), (gNm 8)])]) S (enumD 0 ds) [some v, some (.int num), some (.int C), some (.list L), some (.int 0), some (.list []), none, none, none, none, none] n = some (.nx [some v, some (.int num), some (.int C), some (.list L), m', some r, e6, e7, e8, e9, e10], n)) (hr : ∃ xs, r = .list xs) :
    fnL 11 (sSeq (sSet 3 (dCall G (dAs [(dVar 0)]))) (sSeq (sSet 4 (dC (.int 0))) (sSeq (sSet 5 (fLst (dUnA hLst (dAs [])))) (sSeq (sFor (iEnT (dAs [(dVar 0)])) (gTp [(gNm 6), (gTp [(gNm 7), (gNm 8)])]) S) (sRet (fLst (dVar 5))))))) [v, .int num, .int C] n = some (r, n) := by
  obtain ⟨xs, rfl⟩ := hr
  subst hv
  refine fnL_of (ρ := [some (.tuple ds), some (.int num), some (.int C), none, none, none, none, none, none, none, none]) rfl (sSeq_to (ρ1 := [some (.tuple ds), some (.int num), some (.int C), some (.list L), none, none, none, none, none, none, none]) (n1 := n) (by simp [h1]) (sSeq_to (ρ1 := [some (.tuple ds), some (.int num), some (.int C), some (.list L), some (.int 0), none, none, none, none, none, none]) (n1 := n) rfl (sSeq_to (ρ1 := [some (.tuple ds), some (.int num), some (.int C), some (.list L), some (.int 0), some (.list []), none, none, none, none, none]) (n1 := n) (by simp) (sSeq_to (sFor_of (ds := enumD 0 ds) (n1 := n) (by simp) h2) rfl))))
theorem wts_eq (ns : List Int) (bs : List TB) (n : Nat) (hl : bs.length ≤ 1000) : m_weights_from ns [.tuple (bs.map TB.d)] n = some (.list ((wts bs).map .int), n) := by
  rw [weights_from_eq ns bs n hl]
  unfold wts
  rw [List.map_map]
  rfl
theorem lefts_toward_eq (ns : List Int) (bs : List TB) (num : Nat) (C : Int) (n : Nat) (hb : ∀ b ∈ bs, b.ok) (h5 : bs.length ≤ 5) : m_lefts_toward ns [.tuple (bs.map TB.d), .int num, .int C] n = some (.list ((LT num C 0 bs 0).map .int), n) := by
  obtain ⟨m', e6, e7, e8, e9, e10, h⟩ := lt_loop bs num C (.tuple (bs.map TB.d)) n h5 hb bs 0 0 [] none none none none none rfl (by simp; omega)
  rw [List.nil_append] at h
  exact lefts_ap _ _ num C _ _ n _ m' e6 e7 e8 e9 e10 _ rfl (wts_eq ns bs n (by omega)) h ⟨_, rfl⟩
/-! ### the farthest tower -/
/-- how far block k's tower reaches, in parts of 1/(2 C) -/
def RR (C : Int) (bs : List TB) (k : Nat) : Int := (LT k C 0 bs 0).getD k 0 + 2 * (bs.getD k ⟨0, 0⟩).w * C
def fE (C : Int) (bs : List TB) (k : Nat) : D := .tuple [.int (RR C bs k), .list ((LT k C 0 bs 0).map .int)]
def farS (ns : List Int) : SDen := (sSeq (sSet 5 (dCall (m_lefts_toward ns) (dAs [(dVar 0), (dVar 3), (dVar 1)]))) (sMut 2 hAppend (dAs [(dUnA hTup (dAs [(dBin hAdd (dBin hIx (dVar 5) (dVar 3)) (dBin hMul (dBin hMul (dC (.int 2)) (dBin hIx (dVar 4) (dC (.int 0)))) (dVar 1))), (dVar 5)]))])))
theorem far_turn (G : List D → M D) (ns : List Int) (hG : m_lefts_toward ns = G) (v : D) (C r : Int) (k : Nat) (b : TB) (L acc : List D) (n : Nat) (e5 e6 : Option D) (h1 : G [v, .int k, .int C] n = some (.list L, n)) (h2 : atI L (k : Int) = some (.int r)) (hb : b.ok) (hl : acc.length ≤ 100) :
    farS ns [some v, some (.int C), some (.list acc), some (.int k), some b.d, e5, e6] n = some (.nx [some v, some (.int C), some (.list (acc ++ [.tuple [.int (r + 2 * b.w * C), .list L]])), some (.int k), some b.d, some (.list L), e6], n) := by
  obtain ⟨w0, w1, t0, t1⟩ := hb
  have m1 : -(18446744073709551616 : Int) < b.w := by omega
  have m2 : b.w < (18446744073709551616 : Int) := by omega
  have m3 : -(18446744073709551616 : Int) < 2 * b.w := by omega
  have m4 : 2 * b.w < (18446744073709551616 : Int) := by omega
  have l1 : acc.length < 16777216 := by omega
  unfold farS
  rw [hG]
  simp [h1, h2, m1, m2, m3, m4, l1, hAppend]
theorem far_loop (S : SDen) (E : Nat → D) (Lk : Nat → D) (v : D) (all : List TB) (C : Int) (n : Nat) (H : ∀ (k : Nat) (b : TB) (acc : List D) (e5 e6 : Option D), all[k]? = some b → acc.length ≤ 100 → S [some v, some (.int C), some (.list acc), some (.int k), some b.d, e5, e6] n = some (.nx [some v, some (.int C), some (.list (acc ++ [E k])), some (.int k), some b.d, some (Lk k), e6], n)) : ∀ (bs : List TB) (k : Nat) (acc : List D) (e3 e4 e5 e6 : Option D), all.drop k = bs → acc.length + bs.length ≤ 50 →
    ∃ e3' e4' e5', dFor (gTp [(gNm 3), (gNm 4)]) S (enumD k (bs.map TB.d)) [some v, some (.int C), some (.list acc), e3, e4, e5, e6] n = some (.nx [some v, some (.int C), some (.list (acc ++ (List.range' k bs.length).map E)), e3', e4', e5', e6], n)
  | [], k, acc, e3, e4, e5, e6, _, _ => ⟨e3, e4, e5, by simp [dFor, enumD]⟩
  | b :: bs, k, acc, e3, e4, e5, e6, hd, hl => by
    have hd2 : all.drop (k + 1) = bs := by rw [← List.drop_drop, hd]; rfl
    have hbk : all[k]? = some b := by
      have := congrArg (fun l => l[0]?) hd
      simpa using this
    rw [List.length_cons] at hl
    have ht := H k b acc e5 e6 hbk (by omega)
    obtain ⟨e3', e4', e5', ih⟩ := far_loop S E Lk v all C n H bs (k + 1) (acc ++ [E k]) (some (.int k)) (some b.d) (some (Lk k)) e6 hd2 (by rw [List.length_append, List.length_singleton]; omega)
    refine ⟨e3', e4', e5', ?_⟩
    rw [List.map_cons]
    unfold enumD dFor
    have hg : gTp [(gNm 3), (gNm 4)] (.tuple [.int (k : Nat), b.d]) [some v, some (.int C), some (.list acc), e3, e4, e5, e6] = some [some v, some (.int C), some (.list acc), some (.int k), some b.d, e5, e6] := by simp
    rw [hg]
    simp only [ht]
    rw [List.append_assoc, List.singleton_append] at ih
    rw [List.length_cons, List.range'_succ, List.map_cons]
    exact ih
theorem far_step (ns : List Int) (all : List TB) (C : Int) (n : Nat) (h5 : all.length ≤ 5) (ha : ∀ b ∈ all, b.ok) (k : Nat) (b : TB) (acc : List D) (e5 e6 : Option D) (hbk : all[k]? = some b) (hl : acc.length ≤ 100) :
    farS ns [some (.tuple (all.map TB.d)), some (.int C), some (.list acc), some (.int k), some b.d, e5, e6] n = some (.nx [some (.tuple (all.map TB.d)), some (.int C), some (.list (acc ++ [fE C all k])), some (.int k), some b.d, some (.list ((LT k C 0 all 0).map .int)), e6], n) := by
  have hk := (List.getElem?_eq_some_iff.mp hbk).1
  have hb : b ∈ all := List.mem_of_getElem? hbk
  have hLl := LT_len k C all 0 0
  have hgd : all.getD k ⟨0, 0⟩ = b := by
    rw [List.getD_eq_getElem?_getD, hbk]
    rfl
  have hE : fE C all k = PyData.tuple [.int ((LT k C 0 all 0).getD k 0 + 2 * b.w * C), .list ((LT k C 0 all 0).map .int)] := by
    unfold fE RR
    rw [hgd]
  have hlt := lefts_toward_eq ns all k C n ha h5
  rw [hE]
  generalize LT k C 0 all 0 = L at hLl hlt ⊢
  have hat : atI (L.map PyData.int) (k : Int) = some (.int (L.getD k 0)) := atI_nat (by rw [List.getElem?_map, getD_of (d := 0) (by omega)]; rfl)
  exact far_turn _ ns rfl _ C _ k b _ acc n e5 e6 hlt hat (ha b hb) hl
end DL
namespace DL
open PySem PySem.Spec PyProof.Rows L2
theorem alike_intsR : ∀ (l m : List Int), PySem.W.alikeAll (l.map .int) (m.map .int) = true ∨ PySem.W.alikeAll (l.map .int) (m.map .int) = false := fun l m => by
  cases PySem.W.alikeAll (l.map .int) (m.map .int) <;> simp
theorem alikeAll_ints : ∀ (l m : List Int), l.length = m.length → PySem.W.alikeAll (l.map PyData.int) (m.map .int) = true
  | [], [], _ => rfl
  | a :: l, b :: m, h => by
    rw [List.map_cons, List.map_cons, PySem.W.alikeAll, alikeAll_ints l m (by simpa using h)]
    rfl
def kD (r : Int) (l : List Int) : D := .tuple [.int r, .list (l.map .int)]
theorem alike_kD (r s : Int) (l m : List Int) (h : l.length = m.length) : PySem.W.alike (kD r l) (kD s m) = true := by
  unfold kD
  simp [PySem.W.alike, PySem.W.alikeAll, alikeAll_ints l m h]
theorem dataLt_kD (r s : Int) (l m : List Int) (h : l.length = m.length) : (PySem.W.dataLt (kD r l) (kD s m) = true → r ≤ s) ∧ (PySem.W.dataLt (kD r l) (kD s m) = false → s ≤ r) := by
  unfold kD
  rw [PySem.W.dataLt_tuple, PySem.W.dataLt_cons rfl, PySem.W.dataLt_int]
  by_cases q : r = s
  · subst q
    exact ⟨fun _ => Int.le_refl _, fun _ => Int.le_refl _⟩
  · have e : ¬ PyData.eqv (.int r) (.int s) = true := by simp [PyData.eqv, q]
    rw [if_neg e]
    exact ⟨fun z => by have := of_decide_eq_true z; omega, fun z => by have := of_decide_eq_false z; omega⟩
theorem max_fold (key : D → Int) (P : D → Prop) (h : ∀ a y, P a → P y → (PySem.W.dataLt a y = true → key a ≤ key y) ∧ (PySem.W.dataLt a y = false → key y ≤ key a)) : ∀ (xs : List D) (x : D), P x → (∀ y ∈ xs, P y) →
    (PySem.W.maxD x xs ∈ x :: xs) ∧ ∀ y ∈ x :: xs, key y ≤ key (PySem.W.maxD x xs)
  | [], x, _, _ => ⟨List.mem_cons_self, fun y hy => by
      have : y = x := by simpa using hy
      subst this
      exact Int.le_refl _⟩
  | z :: xs, x, hx, hp => by
    have hz := hp z List.mem_cons_self
    have hxs : ∀ y ∈ xs, P y := fun y hy => hp y (List.mem_cons_of_mem _ hy)
    obtain ⟨h1, h2⟩ := h x z hx hz
    by_cases q : PySem.W.dataLt x z = true
    · have e : PySem.W.maxD x (z :: xs) = PySem.W.maxD z xs := by unfold PySem.W.maxD; rw [List.foldl_cons, if_pos q]
      obtain ⟨i1, i2⟩ := max_fold key P h xs z hz hxs
      rw [e]
      refine ⟨List.mem_cons_of_mem _ i1, fun y hy => ?_⟩
      rcases List.mem_cons.mp hy with rfl | hy
      · exact Int.le_trans (h1 q) (i2 z List.mem_cons_self)
      · exact i2 y hy
    · have q' : PySem.W.dataLt x z = false := Bool.eq_false_iff.mpr q
      have e : PySem.W.maxD x (z :: xs) = PySem.W.maxD x xs := by unfold PySem.W.maxD; rw [List.foldl_cons, if_neg q]
      obtain ⟨i1, i2⟩ := max_fold key P h xs x hx hxs
      rw [e]
      refine ⟨?_, fun y hy => ?_⟩
      · rcases List.mem_cons.mp i1 with i1 | i1
        · rw [i1]; exact List.mem_cons_self
        · exact List.mem_cons_of_mem _ (List.mem_cons_of_mem _ i1)
      · rcases List.mem_cons.mp hy with rfl | hy
        · exact i2 y List.mem_cons_self
        · rcases List.mem_cons.mp hy with rfl | hy
          · exact Int.le_trans (h2 q') (i2 x List.mem_cons_self)
          · exact i2 y (List.mem_cons_of_mem _ hy)
def keyD : D → Int
  | .tuple [.int r, _] => r
  | _ => 0
theorem depthAll_ints : ∀ l : List Int, PyData.depthAll (l.map .int) ≤ 1
  | [] => by simp [PyData.depthAll]
  | a :: l => by
    have := depthAll_ints l
    rw [List.map_cons]
    simp only [PyData.depthAll, PyData.depth]
    omega
theorem depthAll_kD : ∀ (L : List (Int × List Int)), PyData.depthAll (L.map fun p => kD p.1 p.2) ≤ 4
  | [] => by simp [PyData.depthAll]
  | p :: L => by
    have h1 := depthAll_kD L
    have h2 := depthAll_ints p.2
    rw [List.map_cons]
    simp only [PyData.depthAll, kD, PyData.depth]
    simp only [kD] at h1
    omega
/-- max of rows: one with the greatest first number -/
theorem hMax_kD (L : List (Int × List Int)) (N : Nat) (hL : L ≠ []) (hN : ∀ p ∈ L, p.2.length = N) : ∃ p ∈ L, hMaxD [.list (L.map fun p => kD p.1 p.2)] = some (kD p.1 p.2) ∧ ∀ q ∈ L, q.1 ≤ p.1 := by
  match L, hL with
  | p0 :: L, _ =>
    have hall : allAlike ((p0 :: L).map fun p => kD p.1 p.2) = true := by
      unfold allAlike
      rw [List.all_eq_true]
      intro d hd
      obtain ⟨p, hp, rfl⟩ := List.mem_map.mp hd
      rw [Bool.and_eq_true, List.all_eq_true]
      refine ⟨rfl, fun e he => ?_⟩
      obtain ⟨q, hq, rfl⟩ := List.mem_map.mp he
      exact alike_kD _ _ _ _ (by rw [hN p hp, hN q hq])
    have hdep := depthAll_kD (p0 :: L)
    obtain ⟨m1, m2⟩ := max_fold keyD (fun d => ∃ p ∈ p0 :: L, d = kD p.1 p.2) (fun a y ⟨p, hp, ea⟩ ⟨q, hq, ey⟩ => by
      subst ea ey
      exact dataLt_kD p.1 q.1 p.2 q.2 (by rw [hN p hp, hN q hq])) (L.map fun p => kD p.1 p.2) (kD p0.1 p0.2) ⟨p0, List.mem_cons_self, rfl⟩ (fun y hy => by
        obtain ⟨p, hp, rfl⟩ := List.mem_map.mp hy
        exact ⟨p, List.mem_cons_of_mem _ hp, rfl⟩)
    have e0 : (kD p0.1 p0.2 :: L.map fun p => kD p.1 p.2) = (p0 :: L).map fun p => kD p.1 p.2 := rfl
    rw [e0] at m1 m2
    obtain ⟨p, hp, ep⟩ := List.mem_map.mp m1
    refine ⟨p, hp, ?_, fun q hq => ?_⟩
    · rw [← e0] at hall hdep ⊢
      unfold hMaxD
      simp only
      rw [if_pos ⟨hall, Nat.le_trans hdep (by decide)⟩, ← ep]
    · have := m2 _ (List.mem_map_of_mem (f := fun p : Int × List Int => kD p.1 p.2) hq)
      rw [← ep] at this
      exact this
/-- which block the farthest tower reaches with, and how far -/
theorem far_ap (ns : List Int) (G : List D → M D) (v : D) (ds : List D) (C : Int) (F : List D) (r : Int) (L : List D) (n : Nat) (e3 e4 e5 : Option D) (S : SDen) (hv : v = .tuple ds) (h1 : G [v] n = some (.int C, n)) (h2 : dFor (gTp [(gNm 3), (gNm 4)]) S (enumD 0 ds) [some v, some (.int C), some (.list []), none, none, none, none] n = some (.nx [some v, some (.int C), some (.list F), e3, e4, e5, none], n))
    (h3 : hMaxD [.list F] = some (.tuple [.int r, .list L])) :
    fnD 7 (sSeq (sSet 1 (dCall G (dAs [(dVar 0)]))) (sSeq (sSet 2 (fLst (dUnA hLst (dAs [])))) (sSeq (sFor (iEnT (dAs [(dVar 0)])) (gTp [(gNm 3), (gNm 4)]) S) (sSeq (sAsg (gTp [(gNm 6), (gNm 5)]) (dUnA hMaxD (dAs [(dVar 2)]))) (sRet (dUnA hTup (dAs [(dVar 6), (dVar 5), (dBin hMul (dC (.int 2)) (dVar 1))]))))))) [v] n = some (.tuple [.int r, .list L, .int (2 * C)], n) := by
  subst hv
  refine fnD_of (ρ := [some (.tuple ds), none, none, none, none, none, none]) rfl (sSeq_to (ρ1 := [some (.tuple ds), some (.int C), none, none, none, none, none]) (n1 := n) (by simp [h1]) (sSeq_to (ρ1 := [some (.tuple ds), some (.int C), some (.list []), none, none, none, none]) (n1 := n) (by simp) (sSeq_to (sFor_of (ds := enumD 0 ds) (n1 := n) (by simp) h2) (sSeq_to (ρ1 := [some (.tuple ds), some (.int C), some (.list F), e3, e4, some (.list L), some (.int r)]) (n1 := n) (by simp [h3]) (by simp)))))
theorem farthest_eq (ns : List Int) (bs : List TB) (n : Nat) (hb : ∀ b ∈ bs, b.ok) (h1 : 1 ≤ bs.length) (h5 : bs.length ≤ 5) :
    ∃ k, k < bs.length ∧ (∀ m, m_farthest_tower ns [.tuple (bs.map TB.d)] m = some (.tuple [.int (RR (CW bs) bs k), .list ((LT k (CW bs) 0 bs 0).map .int), .int (2 * CW bs)], m)) ∧ ∀ j, j < bs.length → RR (CW bs) bs j ≤ RR (CW bs) bs k := by
  obtain ⟨p, hp, hm, hM⟩ := hMax_kD ((List.range' 0 bs.length).map fun k => (RR (CW bs) bs k, LT k (CW bs) 0 bs 0)) bs.length (by
    intro e
    have := congrArg List.length e
    rw [List.length_map, List.length_range', List.length_nil] at this
    omega) (by
    intro p hp
    obtain ⟨k, _, rfl⟩ := List.mem_map.mp hp
    exact LT_len k (CW bs) bs 0 0)
  obtain ⟨k, hk, rfl⟩ := List.mem_map.mp hp
  rw [List.mem_range'_1] at hk
  refine ⟨k, by omega, fun m => ?_, fun j hj => ?_⟩
  · obtain ⟨e3, e4, e5, hloop⟩ := far_loop (farS ns) (fE (CW bs) bs) (fun k => .list ((LT k (CW bs) 0 bs 0).map .int)) (.tuple (bs.map TB.d)) bs (CW bs) m (fun k b acc e5 e6 hbk hl => far_step ns bs (CW bs) m h5 hb k b acc e5 e6 hbk hl) bs 0 [] none none none none rfl (by simp; omega)
    rw [List.nil_append] at hloop
    have hF : (List.range' 0 bs.length).map (fE (CW bs) bs) = ((List.range' 0 bs.length).map fun k => (RR (CW bs) bs k, LT k (CW bs) 0 bs 0)).map fun p => kD p.1 p.2 := by
      rw [List.map_map]
      rfl
    rw [← hF] at hm
    exact far_ap ns _ _ _ (CW bs) _ _ _ m e3 e4 e5 _ rfl (common_eq ns bs m hb h5) hloop hm
  · exact hM (RR (CW bs) bs j, LT j (CW bs) 0 bs 0) (List.mem_map_of_mem (f := fun k => (RR (CW bs) bs k, LT k (CW bs) 0 bs 0)) (by rw [List.mem_range'_1]; omega))
end DL
namespace DL
open PySem PySem.Spec PyProof.Rows L2
/-! ### reduced fractions -/
def red (t b : Int) : Fr := ⟨t / (Int.gcd t b : Nat), b / (Int.gcd t b : Nat)⟩
theorem red_spec (t b : Int) (hb : 0 < b) : (red t b).a * b = t * (red t b).b ∧ 0 < (red t b).b ∧ (red t b).b ≤ b ∧ (Int.gcd (red t b).a (red t b).b : Int) = 1 ∧ ((red t b).a.natAbs ≤ t.natAbs) := by
  have hg : 0 < Int.gcd t b := Int.gcd_pos_of_ne_zero_right t (by omega)
  have hg' : (0 : Int) < (Int.gcd t b : Nat) := by omega
  obtain ⟨x, hx⟩ := Int.gcd_dvd_left (a := t) (b := b)
  obtain ⟨y, hy⟩ := Int.gcd_dvd_right (a := t) (b := b)
  have hcop : Int.gcd (t / (Int.gcd t b : Nat)) (b / (Int.gcd t b : Nat)) = 1 := Int.gcd_ediv_gcd_ediv_gcd hg
  unfold red
  generalize hG : ((Int.gcd t b : Nat) : Int) = g at hg' hx hy hcop ⊢
  have e1 : t / g = x := by rw [hx]; exact Int.mul_ediv_cancel_left x (by omega)
  have e2 : b / g = y := by rw [hy]; exact Int.mul_ediv_cancel_left y (by omega)
  rw [e1, e2] at hcop
  simp only [e1, e2]
  have hy0 : 0 < y := by
    rcases Int.lt_or_le 0 y with h | h
    · exact h
    · have := Int.mul_nonpos_of_nonneg_of_nonpos (Int.le_of_lt hg') h
      omega
  refine ⟨?_, hy0, ?_, by rw [hcop]; rfl, ?_⟩
  · rw [hx, hy]
    grind
  · have := Int.mul_le_mul_of_nonneg_right (show (1 : Int) ≤ g by omega) (Int.le_of_lt hy0)
    omega
  · rw [hx, Int.natAbs_mul]
    exact Nat.le_mul_of_pos_left _ (by omega)
theorem reduced_eq (ns : List Int) (t b : Int) (n : Nat) (hb : 0 < b) (hb2 : b ≤ 1000000000000) : m_reduced ns [.int t, .int b] n = some ((red t b).d, n) := by
  have hg : 0 < Int.gcd t b := Int.gcd_pos_of_ne_zero_right t (by omega)
  have hgl : Int.gcd t b ≤ 1000000000000 := by
    have := Int.le_of_dvd hb (Int.gcd_dvd_right (a := t) (b := b))
    omega
  have hG : hGcd [.int t, .int b] = some (.int (Int.gcd t b : Nat)) := rfl
  unfold m_reduced red Fr.d
  generalize hg2 : Int.gcd t b = g at hg hgl hG ⊢
  have h0 : (0 : Int) < (g : Nat) := by omega
  have hl : ((g : Nat) : Int).natAbs.log2 < 9000 := by
    rw [Int.natAbs_natCast]
    exact Nat.lt_of_le_of_lt (log2_le_of (k := 40) (Nat.lt_of_le_of_lt hgl (by decide))) (by decide)
  have hor : ((0 : Int) < (g : Nat) ∧ ((g : Nat) : Int) < 1073741824) ∨ ((0 : Int) < (g : Nat) ∧ ((g : Nat) : Int).natAbs.log2 < 9000) := .inr ⟨h0, hl⟩
  have d1 : hFdiv (.int t) (.int (g : Nat)) = some (.int (t / (g : Nat))) := by rw [hFdiv_i, if_pos hor]
  have d2 : hFdiv (.int b) (.int (g : Nat)) = some (.int (b / (g : Nat))) := by rw [hFdiv_i, if_pos hor]
  refine fnD_of (ρ := [some (.int t), some (.int b), none]) rfl (sSeq_to (ρ1 := [some (.int t), some (.int b), some (.int (g : Nat))]) (n1 := n) (by simp only [sSet_ap, dUnA_ap, dAs_cons, dAs_nil, dVar_ap, List.getElem?_cons_zero, List.getElem?_cons_succ, hG]; rfl) (sRet_of ?_))
  simp only [dUnA_ap, dAs_cons, dAs_nil, dVar_ap, dBin_ap, List.getElem?_cons_zero, List.getElem?_cons_succ, d1, d2]
  rfl
/-! ### reach, reaching_tower -/
theorem reach_of_ap (G R : List D → M D) (v : D) (r c : Int) (L : List D) (z : D) (n : Nat) (h1 : G [v] n = some (.tuple [.int r, .list L, .int c], n)) (h2 : R [.int r, .int c] n = some (z, n)) :
    fnD 4 (sSeq (sAsg (gTp [(gNm 1), (gNm 2), (gNm 3)]) (dCall G (dAs [(dVar 0)]))) (sRet (dCall R (dAs [(dVar 1), (dVar 3)])))) [v] n = some (z, n) := by
  refine fnD_of (ρ := [some v, none, none, none]) rfl (sSeq_to (ρ1 := [some v, some (.int r), some (.list L), some (.int c)]) (n1 := n) (by simp [h1]) (by simp [h2]))
theorem reach_ap (G R : List D → M D) (v z : D) (n : Nat) (h1 : G [v] n = some (.none, n)) (h2 : R [v] n = some (z, n)) : fnD 1 (sSeq (sDrop (dCall G (dAs [(dVar 0)]))) (sRet (dCall R (dAs [(dVar 0)])))) [v] n = some (z, n) := by
  refine fnD_of (ρ := [some v]) rfl (sSeq_to (ρ1 := [some v]) (n1 := n) (by simp [h1]) (by simp [h2]))
theorem tower_ap (G F R : List D → M D) (v : D) (r c : Int) (L : List Int) (f : Int → D) (n : Nat) (h1 : G [v] n = some (.none, n)) (h2 : F [v] n = some (.tuple [.int r, .list (L.map .int), .int c], n)) (h3 : ∀ x ∈ L, ∀ m, R [.int x, .int c] m = some (f x, m)) (h4 : ∀ x, noDict (f x) = true) (hl : L.length ≤ 1000) :
    fnD 5 (sSeq (sDrop (dCall G (dAs [(dVar 0)]))) (sSeq (sAsg (gTp [(gNm 1), (gNm 2), (gNm 3)]) (dCall F (dAs [(dVar 0)]))) (sRet (dUnA hTupleOf (dAs [(dLc (iL (dVar 2)) [4] (gNm 4) dYes (dCall R (dAs [(dVar 4), (dVar 3)])))]))))) [v] n = some (.tuple (L.map f), n) := by
  have hc : dComp (gNm 4) dYes (dCall R (dAs [(dVar 4), (dVar 3)])) [some v, some (.int r), some (.list (L.map .int)), some (.int c), none] (L.map .int) n = some (L.map f, n) := by
    rw [dComp_map (p := fun d => match d with | .int x => f x | _ => .none)]
    · rw [List.map_map]; rfl
    · intro d hd m
      obtain ⟨x, hx, rfl⟩ := List.mem_map.mp hd
      exact ⟨[some v, some (.int r), some (.list (L.map .int)), some (.int c), some (.int x)], by simp, by simp [h3 x hx m], h4 x⟩
  have hA := dUnA1 (h := hTupleOf) (dLc_of (it := iL (dVar 2)) (vs := [4]) (ρ := [some v, some (.int r), some (.list (L.map .int)), some (.int c), none]) (n := n) (n1 := n) (ds := L.map .int) (by simp) (by rw [List.length_map]; omega) hc) rfl
  refine fnD_of (ρ := [some v, none, none, none, none]) rfl (sSeq_to (ρ1 := [some v, none, none, none, none]) (n1 := n) (by simp [h1]) (sSeq_to (ρ1 := [some v, some (.int r), some (.list (L.map .int)), some (.int c), none]) (n1 := n) (by simp [h2]) (sRet_of hA)))
/-- the best of several rights -/
def ownF (b : TB) (f : Fr) : Fr := ⟨f.a + b.w * f.b, f.b⟩
def rS : SDen := (sSeq (sSet 5 (dUnA hTup (dAs [(dBin hAdd (dBin hIx (dVar 4) (dC (.int 0))) (dBin hMul (dBin hIx (dVar 3) (dC (.int 0))) (dBin hIx (dVar 4) (dC (.int 1))))), (dBin hIx (dVar 4) (dC (.int 1)))]))) (sSet 2 (dIf (dOr (dTest (dBin hIsB (dVar 2) (dC .none))) (dTest (dBin hGt (dBin hMul (dBin hIx (dVar 5) (dC (.int 0))) (dBin hIx (dVar 2) (dC (.int 1)))) (dBin hMul (dBin hIx (dVar 2) (dC (.int 0))) (dBin hIx (dVar 5) (dC (.int 1))))))) (dVar 5) (dVar 2))))
theorem r_turn0 (v w : D) (b : TB) (f : Fr) (n : Nat) (e5 : Option D) (hb : b.ok) : rS [some v, some w, some .none, some b.d, some f.d, e5] n = some (.nx [some v, some w, some (ownF b f).d, some b.d, some f.d, some (ownF b f).d], n) := by
  obtain ⟨w0, w1, t0, t1⟩ := hb
  have m1 : -(18446744073709551616 : Int) < b.w := by omega
  have m2 : b.w < (18446744073709551616 : Int) := by omega
  have hi : hIsB .none .none = some (.bool true) := rfl
  unfold rS
  simp [m1, m2, hi, ownF, Fr.d]
theorem r_turn (v w : D) (b : TB) (f g : Fr) (n : Nat) (e5 : Option D) (hb : b.ok) (hf : 0 < f.b ∧ f.b ≤ 1000000000000) (hg : 0 < g.b ∧ g.b ≤ 1000000000000) : rS [some v, some w, some g.d, some b.d, some f.d, e5] n = some (.nx [some v, some w, some (if g.a * (ownF b f).b < (ownF b f).a * g.b then ownF b f else g).d, some b.d, some f.d, some (ownF b f).d], n) := by
  obtain ⟨w0, w1, t0, t1⟩ := hb
  have m1 : -(18446744073709551616 : Int) < b.w := by omega
  have m2 : b.w < (18446744073709551616 : Int) := by omega
  have m3 : -(18446744073709551616 : Int) < f.b := by omega
  have m4 : f.b < (18446744073709551616 : Int) := by omega
  have m5 : -(18446744073709551616 : Int) < g.b := by omega
  have m6 : g.b < (18446744073709551616 : Int) := by omega
  have hi : hIsB (.tuple [.int g.a, .int g.b]) .none = some (.bool false) := rfl
  unfold rS
  by_cases q : g.a * f.b < (f.a + b.w * f.b) * g.b
  · simp [m1, m2, m3, m4, m5, m6, hi, ownF, Fr.d, q]
  · simp [m1, m2, m3, m4, m5, m6, hi, ownF, Fr.d, q]
end DL
namespace DL
open PySem PySem.Spec PyProof.Rows L2
theorem frac_trans {a b c d e f : Int} (hb : 0 < b) (hd : 0 < d) (hf : 0 < f) (h1 : a * d ≤ c * b) (h2 : c * f ≤ e * d) : a * f ≤ e * b := by
  have k1 := Int.mul_le_mul_of_nonneg_right h1 (Int.le_of_lt hf)
  have k2 := Int.mul_le_mul_of_nonneg_right h2 (Int.le_of_lt hb)
  have : (a * f) * d ≤ (e * b) * d := by
    have e1 : a * f * d = a * d * f := by grind
    have e2 : c * b * f = c * f * b := by grind
    have e3 : e * b * d = e * d * b := by grind
    omega
  exact Int.le_of_mul_le_mul_right this hd
theorem zipD_fr : ∀ (bs : List TB) (fs : List Fr), zipD (bs.map TB.d) (fs.map Fr.d) = (List.zip bs fs).map fun p => .tuple [p.1.d, p.2.d]
  | [], _ => by simp [zipD]
  | _ :: _, [] => by simp [zipD]
  | b :: bs, l :: ls => by
    rw [List.map_cons, List.map_cons, List.zip_cons_cons, List.map_cons]
    unfold zipD
    rw [zipD_fr bs ls]
theorem r_loop (v w : D) (n : Nat) : ∀ (ps : List (TB × Fr)) (g : Fr) (e3 e4 e5 : Option D), (∀ p ∈ ps, p.1.ok ∧ 0 < p.2.b ∧ p.2.b ≤ 1000000000000) → 0 < g.b ∧ g.b ≤ 1000000000000 →
    ∃ (g' : Fr) (e3' e4' e5' : Option D), dFor (gTp [(gNm 3), (gNm 4)]) rS (ps.map fun p => .tuple [p.1.d, p.2.d]) [some v, some w, some g.d, e3, e4, e5] n = some (.nx [some v, some w, some g'.d, e3', e4', e5'], n) ∧ (g' = g ∨ ∃ p ∈ ps, g' = ownF p.1 p.2) ∧ (0 < g'.b ∧ g'.b ≤ 1000000000000) ∧ g.a * g'.b ≤ g'.a * g.b ∧ ∀ p ∈ ps, (ownF p.1 p.2).a * g'.b ≤ g'.a * (ownF p.1 p.2).b
  | [], g, e3, e4, e5, _, hg => ⟨g, e3, e4, e5, rfl, .inl rfl, hg, Int.le_refl _, (fun _ h => nomatch h)⟩
  | p :: ps, g, e3, e4, e5, hp, hg => by
    obtain ⟨hb, hf⟩ := hp p List.mem_cons_self
    have ht := r_turn v w p.1 p.2 g n e5 hb hf hg
    have hof : 0 < (ownF p.1 p.2).b ∧ (ownF p.1 p.2).b ≤ 1000000000000 := hf
    have hn : 0 < (if g.a * (ownF p.1 p.2).b < (ownF p.1 p.2).a * g.b then ownF p.1 p.2 else g).b ∧ (if g.a * (ownF p.1 p.2).b < (ownF p.1 p.2).a * g.b then ownF p.1 p.2 else g).b ≤ 1000000000000 := by
      split
      · exact hof
      · exact hg
    obtain ⟨g', e3', e4', e5', i1, i2, i3, i4, i5⟩ := r_loop v w n ps (if g.a * (ownF p.1 p.2).b < (ownF p.1 p.2).a * g.b then ownF p.1 p.2 else g) (some p.1.d) (some p.2.d) (some (ownF p.1 p.2).d) (fun q hq => hp q (List.mem_cons_of_mem _ hq)) hn
    refine ⟨g', e3', e4', e5', ?_, ?_, i3, ?_, ?_⟩
    · rw [List.map_cons]
      unfold dFor
      have hgo : gTp [(gNm 3), (gNm 4)] (.tuple [p.1.d, p.2.d]) [some v, some w, some g.d, e3, e4, e5] = some [some v, some w, some g.d, some p.1.d, some p.2.d, e5] := by simp
      rw [hgo]
      simp only [ht]
      exact i1
    · rcases i2 with i2 | ⟨q, hq, i2⟩
      · by_cases c : g.a * (ownF p.1 p.2).b < (ownF p.1 p.2).a * g.b
        · rw [if_pos c] at i2
          exact .inr ⟨p, List.mem_cons_self, i2⟩
        · rw [if_neg c] at i2
          exact .inl i2
      · exact .inr ⟨q, List.mem_cons_of_mem _ hq, i2⟩
    · by_cases c : g.a * (ownF p.1 p.2).b < (ownF p.1 p.2).a * g.b
      · rw [if_pos c] at i4
        exact frac_trans hg.1 hof.1 i3.1 (by omega) i4
      · rw [if_neg c] at i4
        exact i4
    · intro q hq
      rcases List.mem_cons.mp hq with rfl | hq
      · by_cases c : g.a * (ownF q.1 q.2).b < (ownF q.1 q.2).a * g.b
        · rw [if_pos c] at i4
          exact i4
        · rw [if_neg c] at i4
          exact frac_trans hof.1 hg.1 i3.1 (by omega) i4
      · exact i5 q hq
theorem law_reach_ap (v w : D) (L : List D) (z : D) (n : Nat) (e3 e4 e5 : Option D) (S : SDen) (hz : iZx (dAs [(dVar 0), (dVar 1)]) [some v, some w, some .none, none, none, none] n = some (L, n)) (h : dFor (gTp [(gNm 3), (gNm 4)]) S L [some v, some w, some .none, none, none, none] n = some (.nx [some v, some w, some z, e3, e4, e5], n)) :
    fnD 6 (sSeq (sSet 2 (dC .none)) (sSeq (sFor (iZx (dAs [(dVar 0), (dVar 1)])) (gTp [(gNm 3), (gNm 4)]) S) (sRet (dVar 2)))) [v, w] n = some (z, n) :=
  fnD_of (ρ := [some v, some w, none, none, none, none]) rfl (sSeq_to (ρ1 := [some v, some w, some .none, none, none, none]) (n1 := n) rfl (sSeq_to (sFor_of hz h) rfl))
theorem law_reach_eq (ns : List Int) (bs : List TB) (fs : List Fr) (w : D) (n : Nat) (hw : w = .tuple (fs.map Fr.d) ∨ w = .list (fs.map Fr.d)) (hb : ∀ b ∈ bs, b.ok) (hf : ∀ f ∈ fs, 0 < f.b ∧ f.b ≤ 1000000000000) (hl : fs.length = bs.length) (h1 : 1 ≤ bs.length) :
    ∃ g : Fr, m_law_reach ns [.tuple (bs.map TB.d), w] n = some (g.d, n) ∧ (∃ p ∈ List.zip bs fs, g = ownF p.1 p.2) ∧ 0 < g.b ∧ ∀ p ∈ List.zip bs fs, (ownF p.1 p.2).a * g.b ≤ g.a * (ownF p.1 p.2).b := by
  have hz : iZx (dAs [(dVar 0), (dVar 1)]) [some (.tuple (bs.map TB.d)), some w, some .none, none, none, none] n = some (zipD (bs.map TB.d) (fs.map Fr.d), n) := by
    rcases hw with rfl | rfl <;> simp
  rw [zipD_fr] at hz
  match bs, fs, hl, h1 with
  | b :: bs, f :: fs, hl, h1 =>
    have hb0 := hb b List.mem_cons_self
    have hf0 := hf f List.mem_cons_self
    obtain ⟨g, e3, e4, e5, i1, i2, i3, i4, i5⟩ := r_loop (.tuple ((b :: bs).map TB.d)) w n (List.zip bs fs) (ownF b f) (some b.d) (some f.d) (some (ownF b f).d) (fun p hp => ⟨hb _ (List.mem_cons_of_mem _ (List.of_mem_zip hp).1), hf _ (List.mem_cons_of_mem _ (List.of_mem_zip hp).2)⟩) hf0
    have ht := r_turn0 (.tuple ((b :: bs).map TB.d)) w b f n none hb0
    refine ⟨g, law_reach_ap _ w _ _ n e3 e4 e5 rS hz ?_, ?_, i3.1, ?_⟩
    · rw [List.zip_cons_cons, List.map_cons]
      unfold dFor
      have hgo : gTp [(gNm 3), (gNm 4)] (.tuple [b.d, f.d]) [some (.tuple ((b :: bs).map TB.d)), some w, some .none, none, none, none] = some [some (.tuple ((b :: bs).map TB.d)), some w, some .none, some b.d, some f.d, none] := by simp
      rw [hgo]
      simp only [ht]
      exact i1
    · rw [List.zip_cons_cons]
      rcases i2 with rfl | ⟨p, hp, i2⟩
      · exact ⟨(b, f), List.mem_cons_self, rfl⟩
      · exact ⟨p, List.mem_cons_of_mem _ hp, i2⟩
    · rw [List.zip_cons_cons]
      intro p hp
      rcases List.mem_cons.mp hp with rfl | hp
      · exact i4
      · exact i5 p hp
end DL
namespace DL
open PySem PySem.Spec PyProof.Rows L2
/-! ### the mathematics of reaches -/
def TS (U : Int) (bs : List TB) (ls : List Int) : Int := (TT U bs ls).sum
theorem TS_cons (U : Int) (b : TB) (bs : List TB) (l : Int) (ls : List Int) : TS U (b :: bs) (l :: ls) = b.t * (2 * l + b.w * U) + TS U bs ls := by
  unfold TS TT
  rw [List.zipWith_cons_cons, List.sum_cons]
  rfl
theorem WT_cons (b : TB) (bs : List TB) : WT (b :: bs) = b.t + WT bs := by
  unfold WT
  rw [List.map_cons, List.sum_cons]
/-- each block bears the middle of those above it -/
def St (U : Int) : List TB → List Int → Prop
  | b :: bs, l :: ls => (2 * l * WT bs ≤ TS U bs ls ∧ TS U bs ls ≤ 2 * (l + b.w * U) * WT bs) ∧ St U bs ls
  | _, _ => True
/-- the weights divide C -/
def Dv (C : Int) : List TB → Prop
  | b :: bs => WT (b :: bs) ∣ C ∧ Dv C bs
  | [] => True
def Rx (C : Int) : Nat → List TB → Int → Int
  | 0, b :: bs, m => m + b.w * C * (WT (b :: bs) - b.t) / WT (b :: bs) + b.w * C
  | j + 1, b :: bs, m => Rx C j bs (m + b.w * C * b.t / WT (b :: bs))
  | _, [], _ => 0
theorem WT_nonneg : ∀ (bs : List TB), (∀ b ∈ bs, b.ok) → 0 ≤ WT bs := fun bs h => (Wk_bnd bs h 0).1
theorem exact_div {C W a b : Int} (h : W ∣ C) (hW : 0 < W) : (a * C * b / W) * W = a * C * b := by
  obtain ⟨k, rfl⟩ := h
  have : a * (W * k) * b = (a * k * b) * W := by grind
  rw [this, Int.mul_ediv_cancel _ (by omega)]
theorem opt_step {U C W W' t w l m d T T' : Int} (hU : 0 < U) (hC : 0 < C) (hW : 0 < W) (hW' : 0 ≤ W') (hWt : W = t + W') (ht : 0 < t) (hT : T = t * (2 * l + w * U) + T') (h2 : T' ≤ 2 * (l + w * U) * W') (hd : d * W = w * C * t) (hA : C * T ≤ U * W * m) :
    C * T' ≤ U * W' * (m + d) := by
  have a1 : T' * W ≤ W' * (T + t * w * U) := by
    have k := Int.mul_le_mul_of_nonneg_right h2 (Int.le_of_lt ht)
    have e1 : T' * W = T' * t + T' * W' := by rw [hWt]; grind
    have e2 : W' * (T + t * w * U) = 2 * (l + w * U) * W' * t + T' * W' := by rw [hT]; grind
    omega
  have a2 := Int.mul_le_mul_of_nonneg_left a1 (Int.le_of_lt hC)
  have a3 : W' * (C * T) ≤ W' * (U * W * m) := Int.mul_le_mul_of_nonneg_left hA hW'
  have a4 : (C * T') * W ≤ (U * W' * (m + d)) * W := by
    have e1 : C * (T' * W) = C * T' * W := by grind
    have e2 : C * (W' * (T + t * w * U)) = W' * (C * T) + W' * U * (w * C * t) := by grind
    have e3 : U * W' * (m + d) * W = W' * (U * W * m) + W' * U * (d * W) := by grind
    rw [hd] at e3
    omega
  exact Int.le_of_mul_le_mul_right a4 hW
theorem opt_here {U C W W' t w l m e T T' : Int} (hU : 0 < U) (hC : 0 < C) (hW : 0 < W) (hWt : W = t + W') (hT : T = t * (2 * l + w * U) + T') (h1 : 2 * l * W' ≤ T') (he : e * W = w * C * (W - t)) (hA : C * T ≤ U * W * m) :
    2 * C * (l + w * U) ≤ U * (m + e + w * C) := by
  have a1 : 2 * l * W ≤ T - t * w * U := by
    have e1 : 2 * l * W = 2 * l * t + 2 * l * W' := by rw [hWt]; grind
    have e2 : T = 2 * l * t + t * w * U + T' := by rw [hT]; grind
    omega
  have a2 := Int.mul_le_mul_of_nonneg_left a1 (Int.le_of_lt hC)
  have a4 : (2 * C * (l + w * U)) * W ≤ (U * (m + e + w * C)) * W := by
    have e1 : 2 * C * (l + w * U) * W = C * (2 * l * W) + 2 * C * w * U * W := by grind
    have e2 : C * (T - t * w * U) = C * T - C * t * w * U := by grind
    have e3 : U * (m + e + w * C) * W = U * W * m + U * (e * W) + U * w * C * W := by grind
    have e4 : U * (w * C * (W - t)) = U * w * C * W - C * t * w * U := by grind
    have e5 : 2 * C * w * U * W = U * w * C * W + U * w * C * W := by grind
    rw [he, e4] at e3
    omega
  exact Int.le_of_mul_le_mul_right a4 hW
/-- no standing tower reaches farther -/
theorem opt (U C : Int) (hU : 0 < U) (hC : 0 < C) : ∀ (bs : List TB) (ls : List Int) (m : Int) (j : Nat) (b : TB) (l : Int), (∀ b ∈ bs, b.ok) → ls.length = bs.length → Dv C bs → St U bs ls → C * TS U bs ls ≤ U * WT bs * m → bs[j]? = some b → ls[j]? = some l → 2 * C * (l + b.w * U) ≤ U * Rx C j bs m
  | [], _, _, _, _, _, _, _, _, _, _, hj, _ => by simp at hj
  | b0 :: bs, [], _, _, _, _, _, hl, _, _, _, _, _ => by simp at hl
  | b0 :: bs, l0 :: ls, m, j, b, l, hb, hl, hD, hS, hA, hj, hlj => by
    obtain ⟨⟨s1, s2⟩, s3⟩ := hS
    obtain ⟨d1, d2⟩ := hD
    obtain ⟨w0, w1, t0, t1⟩ := hb b0 List.mem_cons_self
    have hb' : ∀ x ∈ bs, x.ok := fun x hx => hb x (List.mem_cons_of_mem _ hx)
    have hW' := WT_nonneg bs hb'
    have hW : 0 < WT (b0 :: bs) := WT_pos _ hb (by simp)
    cases j with
    | zero =>
      simp only [List.getElem?_cons_zero, Option.some.injEq] at hj hlj
      subst hj hlj
      have he := exact_div (a := b0.w) (b := WT (b0 :: bs) - b0.t) d1 hW
      exact opt_here hU hC hW (WT_cons b0 bs) (TS_cons U b0 bs l0 ls) s1 he hA
    | succ j =>
      simp only [List.getElem?_cons_succ] at hj hlj
      have hd := exact_div (a := b0.w) (b := b0.t) d1 hW
      have := opt_step hU hC hW hW' (WT_cons b0 bs) (by omega) (TS_cons U b0 bs l0 ls) s2 hd hA
      exact opt U C hU hC bs ls _ j b l hb' (by simpa using hl) d2 s3 this hj hlj
/-- block num's tower: its left there -/
theorem LT_at (C : Int) : ∀ (bs : List TB) (k j : Nat) (m : Int) (b : TB), bs[j]? = some b → (∀ b ∈ bs, b.ok) → Dv C bs → (LT (k + j) C k bs m).getD j 0 + 2 * b.w * C = Rx C j bs m
  | [], _, _, _, _, h, _, _ => by simp at h
  | b0 :: bs, k, 0, m, b, h, hb, hD => by
    simp only [List.getElem?_cons_zero, Option.some.injEq] at h
    subst h
    obtain ⟨d1, d2⟩ := hD
    have hW : 0 < WT (b0 :: bs) := WT_pos _ hb (by simp)
    unfold LT Rx
    simp only [List.getD_cons_zero, Nat.add_zero, Nat.lt_irrefl, if_false]
    obtain ⟨q, hq⟩ := d1
    have e1 : -(b0.w * C) * (WT (b0 :: bs) - b0.t) / WT (b0 :: bs) = -(b0.w * C * (WT (b0 :: bs) - b0.t) / WT (b0 :: bs)) := by
      generalize WT (b0 :: bs) = W at hW hq ⊢
      subst hq
      have x1 : -(b0.w * (W * q)) * (W - b0.t) = -(b0.w * q * (W - b0.t)) * W := by grind
      have x2 : b0.w * (W * q) * (W - b0.t) = (b0.w * q * (W - b0.t)) * W := by grind
      rw [x1, x2, Int.mul_ediv_cancel _ (by omega), Int.mul_ediv_cancel _ (by omega)]
    rw [e1]
    have e2 : 2 * b0.w * C = b0.w * C + b0.w * C := by grind
    omega
  | b0 :: bs, k, j + 1, m, b, h, hb, hD => by
    simp only [List.getElem?_cons_succ] at h
    obtain ⟨d1, d2⟩ := hD
    have ih := LT_at C bs (k + 1) j (m + b0.w * C * b0.t / WT (b0 :: bs)) b h (fun x hx => hb x (List.mem_cons_of_mem _ hx)) d2
    have hk : k < k + (j + 1) := by omega
    unfold LT Rx
    rw [if_pos hk, List.getD_cons_succ]
    rw [show k + (j + 1) = k + 1 + j by omega]
    exact ih
/-- that tower stands -/
theorem LT_stands (num : Nat) (C : Int) (hC : 0 < C) : ∀ (bs : List TB) (k : Nat) (m : Int), (∀ b ∈ bs, b.ok) → Dv C bs → St (2 * C) bs (LT num C k bs m) ∧ TS (2 * C) bs (LT num C k bs m) = 2 * WT bs * m
  | [], _, m, _, _ => ⟨trivial, by simp [TS, TT, WT]⟩
  | b :: bs, k, m, hb, hD => by
    obtain ⟨d1, d2⟩ := hD
    obtain ⟨w0, w1, t0, t1⟩ := hb b List.mem_cons_self
    have hW : 0 < WT (b :: bs) := WT_pos _ hb (by simp)
    have hW' := WT_nonneg bs fun x hx => hb x (List.mem_cons_of_mem _ hx)
    obtain ⟨lean, hlean, hle⟩ : ∃ lean, lean = (if k < num then b.w * C else -(b.w * C)) ∧ (lean = b.w * C ∨ lean = -(b.w * C)) := by
      refine ⟨_, rfl, ?_⟩
      split
      · exact .inl rfl
      · exact .inr rfl
    obtain ⟨i1, i2⟩ := LT_stands num C hC bs (k + 1) (m + lean * b.t / WT (b :: bs)) (fun x hx => hb x (List.mem_cons_of_mem _ hx)) d2
    unfold LT
    rw [← hlean]
    have hWc := WT_cons b bs
    obtain ⟨x, hx⟩ : ∃ x, lean * (WT (b :: bs) - b.t) / WT (b :: bs) = x ∧ x * WT (b :: bs) = lean * (WT (b :: bs) - b.t) := by
      refine ⟨_, rfl, ?_⟩
      rcases hle with h | h
      · rw [h]; exact exact_div d1 hW
      · rw [h]
        have := exact_div (a := -b.w) (b := WT (b :: bs) - b.t) d1 hW
        rw [Int.neg_mul] at this
        exact this
    obtain ⟨y, hy⟩ : ∃ y, lean * b.t / WT (b :: bs) = y ∧ y * WT (b :: bs) = lean * b.t := by
      refine ⟨_, rfl, ?_⟩
      rcases hle with h | h
      · rw [h]; exact exact_div d1 hW
      · rw [h]
        have := exact_div (a := -b.w) (b := b.t) d1 hW
        rw [Int.neg_mul] at this
        exact this
    rw [hx.1]
    rw [hy.1] at i1 i2 ⊢
    obtain ⟨-, hx⟩ := hx
    obtain ⟨-, hy⟩ := hy
    have hxy : x + y = lean := by
      have : (x + y) * WT (b :: bs) = lean * WT (b :: bs) := by
        rw [Int.add_mul, hx, hy]
        grind
      exact Int.eq_of_mul_eq_mul_right (by omega) this
    have hwc : 0 ≤ b.w * C := Int.mul_nonneg (by omega) (by omega)
    refine ⟨⟨⟨?_, ?_⟩, i1⟩, ?_⟩
    · rw [i2]
      have : m - x - b.w * C ≤ m + y := by omega
      have := Int.mul_le_mul_of_nonneg_right this hW'
      have e1 : 2 * (m - x - b.w * C) * WT bs = 2 * ((m - x - b.w * C) * WT bs) := by grind
      have e2 : 2 * WT bs * (m + y) = 2 * ((m + y) * WT bs) := by grind
      omega
    · rw [i2]
      have : m + y ≤ m - x - b.w * C + b.w * (2 * C) := by
        have : b.w * (2 * C) = b.w * C + b.w * C := by grind
        omega
      have := Int.mul_le_mul_of_nonneg_right this hW'
      have e1 : 2 * (m - x - b.w * C + b.w * (2 * C)) * WT bs = 2 * ((m - x - b.w * C + b.w * (2 * C)) * WT bs) := by grind
      have e2 : 2 * WT bs * (m + y) = 2 * ((m + y) * WT bs) := by grind
      omega
    · rw [TS_cons, i2]
      have hk : x * b.t = y * WT bs := by
        have : (x * b.t) * WT (b :: bs) = (y * WT bs) * WT (b :: bs) := by
          have e1 : x * b.t * WT (b :: bs) = x * WT (b :: bs) * b.t := by grind
          have e2 : y * WT bs * WT (b :: bs) = y * WT (b :: bs) * WT bs := by grind
          rw [e1, e2, hx, hy, hWc]
          grind
        exact Int.eq_of_mul_eq_mul_right (by omega) this
      rw [hWc]
      grind
end DL
namespace DL
open PySem PySem.Spec PyProof.Rows L2
theorem okP_one (U : Int) (b : TB) (bs : List TB) (l : Int) (ls : List Int) : okP U (b :: bs) (l :: ls) 1 = (decide (2 * l * WT bs ≤ TS U bs ls) && decide (TS U bs ls ≤ 2 * (l + b.w * U) * WT bs)) := rfl
theorem okP_succ (U : Int) (b : TB) (bs : List TB) (l : Int) (ls : List Int) (k : Nat) : okP U (b :: bs) (l :: ls) (k + 1 + 1) = okP U bs ls (k + 1) := rfl
theorem St_iff (U : Int) : ∀ (bs : List TB) (ls : List Int), ls.length = bs.length → ((∀ k, 1 ≤ k → k < bs.length → okP U bs ls k = true) ↔ St U bs ls)
  | [], _, _ => ⟨fun _ => trivial, fun _ k _ h => by simp at h⟩
  | b :: bs, [], h => by simp at h
  | b :: bs, l :: ls, h => by
    have hl : ls.length = bs.length := by simpa using h
    have ih := St_iff U bs ls hl
    constructor
    · intro q
      refine ⟨?_, ih.mp fun k k1 k2 => ?_⟩
      · cases hbs : bs with
        | nil =>
          rw [hbs] at hl
          have : ls = [] := List.eq_nil_of_length_eq_zero (by simpa using hl)
          subst this
          have h1 : WT [] = 0 := rfl
          have h2 : TS U [] [] = 0 := rfl
          rw [h1, h2, Int.mul_zero, Int.mul_zero]
          exact ⟨Int.le_refl 0, Int.le_refl 0⟩
        | cons b' bs' =>
          have := q 1 (Nat.le_refl 1) (by rw [hbs]; simp)
          rw [okP_one, Bool.and_eq_true, decide_eq_true_eq, decide_eq_true_eq, hbs] at this
          exact this
      · obtain ⟨k', rfl⟩ : ∃ k', k = k' + 1 := ⟨k - 1, by omega⟩
        have := q (k' + 1 + 1) (by omega) (by simp; omega)
        rw [okP_succ] at this
        exact this
    · rintro ⟨⟨s1, s2⟩, s3⟩ k k1 k2
      by_cases k0 : k = 1
      · subst k0
        rw [okP_one, decide_eq_true s1, decide_eq_true s2]
        rfl
      · obtain ⟨k', rfl⟩ : ∃ k', k = k' + 1 + 1 := ⟨k - 2, by omega⟩
        rw [okP_succ]
        exact ih.mpr s3 (k' + 1) (by omega) (by simp at k2; omega)
theorem isTow_iff (bs : List TB) (fs : List Fr) (hl : fs.length = bs.length) : isTow bs fs = true ↔ TS (UF fs) bs (fs.map (LU (UF fs))) ≤ 0 ∧ St (UF fs) bs (fs.map (LU (UF fs))) := by
  have h := St_iff (UF fs) bs (fs.map (LU (UF fs))) (by rw [List.length_map]; exact hl)
  unfold isTow
  rw [Bool.and_eq_true, decide_eq_true_eq, List.all_eq_true, ← h]
  have e : Tk (UF fs) bs (fs.map (LU (UF fs))) 0 = TS (UF fs) bs (fs.map (LU (UF fs))) := rfl
  rw [e]
  constructor
  · rintro ⟨a, b⟩
    exact ⟨a, fun k k1 k2 => b k (by rw [List.mem_range'_1]; omega)⟩
  · rintro ⟨a, b⟩
    exact ⟨a, fun k hk => by rw [List.mem_range'_1] at hk; exact b k (by omega) (by omega)⟩
theorem Dv_of (C : Int) : ∀ (bs : List TB), (∀ k, k < bs.length → WT (bs.drop k) ∣ C) → Dv C bs
  | [], _ => trivial
  | b :: bs, h => ⟨h 0 (by simp), Dv_of C bs fun k hk => by simpa using h (k + 1) (by simp; omega)⟩
/-! ### the same tower in other units -/
def Sc (U V : Int) : List Int → List Int → Prop
  | l :: ls, x :: xs => l * V = x * U ∧ Sc U V ls xs
  | [], [] => True
  | _, _ => False
theorem Sc_TS {U V : Int} : ∀ (bs : List TB) (ls xs : List Int), Sc U V ls xs → TS U bs ls * V = TS V bs xs * U
  | [], _, _, _ => by simp [TS, TT]
  | b :: bs, [], [], _ => by simp [TS, TT]
  | b :: bs, l :: ls, x :: xs, h => by
    have ih := Sc_TS bs ls xs h.2
    have h1 := h.1
    rw [TS_cons, TS_cons]
    grind
  | b :: bs, [], _ :: _, h => absurd h (by simp [Sc])
  | b :: bs, _ :: _, [], h => absurd h (by simp [Sc])
theorem Sc_St {U V : Int} (hU : 0 < U) (hV : 0 < V) : ∀ (bs : List TB) (ls xs : List Int), Sc U V ls xs → St V bs xs → St U bs ls
  | [], _, _, _, _ => trivial
  | b :: bs, [], _, _, _ => trivial
  | b :: bs, l :: ls, [], h, _ => absurd h (by simp [Sc])
  | b :: bs, l :: ls, x :: xs, h, hs => by
    obtain ⟨⟨s1, s2⟩, s3⟩ := hs
    have hT := Sc_TS bs ls xs h.2
    have h1 := h.1
    refine ⟨⟨?_, ?_⟩, Sc_St hU hV bs ls xs h.2 s3⟩
    · have := Int.mul_le_mul_of_nonneg_right s1 (Int.le_of_lt hU)
      have e : 2 * l * WT bs * V = 2 * x * WT bs * U := by grind
      exact Int.le_of_mul_le_mul_right (by omega) hV
    · have := Int.mul_le_mul_of_nonneg_right s2 (Int.le_of_lt hU)
      have e : 2 * (l + b.w * U) * WT bs * V = 2 * (x + b.w * V) * WT bs * U := by grind
      exact Int.le_of_mul_le_mul_right (by omega) hV
/-! ### the shown tower -/
theorem LT_bnd (num : Nat) (C : Int) (hC : 0 < C) : ∀ (bs : List TB) (k : Nat) (m B : Int), (∀ b ∈ bs, b.ok) → Dv C bs → -B ≤ m → m ≤ B → ∀ x ∈ LT num C k bs m, -(B + 8 * C * bs.length + 16 * C) ≤ x ∧ x ≤ B + 8 * C * bs.length + 16 * C
  | [], _, _, _, _, _, _, _, x, hx => nomatch hx
  | b :: bs, k, m, B, hb, hD, hm0, hm1, x, hx => by
    obtain ⟨d1, d2⟩ := hD
    obtain ⟨w0, w1, t0, t1⟩ := hb b List.mem_cons_self
    have hW : 0 < WT (b :: bs) := WT_pos _ hb (by simp)
    have hW' := WT_nonneg bs fun x hx => hb x (List.mem_cons_of_mem _ hx)
    have hWc := WT_cons b bs
    have hwc : 0 ≤ b.w * C ∧ b.w * C ≤ 8 * C := ⟨Int.mul_nonneg (by omega) (by omega), Int.mul_le_mul_of_nonneg_right w1 (by omega)⟩
    have key : ∀ s : Int, 0 ≤ s → s ≤ WT (b :: bs) → ∀ lean : Int, (lean = b.w * C ∨ lean = -(b.w * C)) → -(8 * C) ≤ lean * s / WT (b :: bs) ∧ lean * s / WT (b :: bs) ≤ 8 * C := by
      intro s s0 s1 lean hl
      have hb1 : -(8 * C) ≤ lean ∧ lean ≤ 8 * C := by rcases hl with h | h <;> omega
      constructor
      · rw [Int.le_ediv_iff_mul_le hW]
        have a1 := Int.mul_le_mul_of_nonneg_right hb1.1 s0
        have a2 := Int.mul_le_mul_of_nonneg_left s1 (show (0 : Int) ≤ 8 * C by omega)
        have e : -(8 * C) * s = -(8 * C * s) := by grind
        have e2 : -(8 * C) * WT (b :: bs) = -(8 * C * WT (b :: bs)) := by grind
        omega
      · refine Int.le_of_lt_add_one ?_
        rw [Int.ediv_lt_iff_lt_mul hW]
        have a1 := Int.mul_le_mul_of_nonneg_right hb1.2 s0
        have a2 := Int.mul_le_mul_of_nonneg_left s1 (show (0 : Int) ≤ 8 * C by omega)
        have e2 : (8 * C + 1) * WT (b :: bs) = 8 * C * WT (b :: bs) + WT (b :: bs) := by grind
        omega
    have hle : ∀ c : Bool, ((if c = true then b.w * C else -(b.w * C)) = b.w * C ∨ (if c = true then b.w * C else -(b.w * C)) = -(b.w * C)) := by intro c; cases c <;> simp
    have hle' : ((if k < num then b.w * C else -(b.w * C)) = b.w * C ∨ (if k < num then b.w * C else -(b.w * C)) = -(b.w * C)) := by
      split
      · exact .inl rfl
      · exact .inr rfl
    have k1 := key (WT (b :: bs) - b.t) (by omega) (by omega) _ hle'
    have k2 := key b.t (by omega) (by omega) _ hle'
    unfold LT at hx
    rw [List.length_cons]
    have hlen : (0 : Int) ≤ (bs.length : Int) := by omega
    have hCl : 0 ≤ 8 * C * (bs.length : Int) := Int.mul_nonneg (by omega) hlen
    have eL : 8 * C * ((bs.length + 1 : Nat) : Int) = 8 * C * (bs.length : Int) + 8 * C := by
      rw [Int.natCast_add, Int.natCast_one]
      grind
    rw [eL]
    generalize (if k < num then b.w * C else -(b.w * C)) = lean at hx k1 k2
    rcases List.mem_cons.mp hx with rfl | hx
    · omega
    · have := LT_bnd num C hC bs (k + 1) _ (B + 8 * C) (fun x hx => hb x (List.mem_cons_of_mem _ hx)) d2 (by omega) (by omega) x hx
      omega
def shown (bs : List TB) (k : Nat) : List Fr := (LT k (CW bs) 0 bs 0).map fun x => red x (2 * CW bs)
theorem shown_len (bs : List TB) (k : Nat) : (shown bs k).length = bs.length := by
  unfold shown
  rw [List.length_map, LT_len]
structure Gd (bs : List TB) : Prop where
  ok : ∀ b ∈ bs, b.ok
  l1 : 1 ≤ bs.length
  l5 : bs.length ≤ 5
theorem Gd.dv {bs : List TB} (g : Gd bs) : Dv (CW bs) bs := Dv_of _ bs fun k hk => CW_dvd bs g.ok k hk
theorem Gd.c0 {bs : List TB} (g : Gd bs) : 0 < CW bs := by
  have := CN_pos bs g.ok g.l5
  unfold CW
  omega
theorem Gd.c1 {bs : List TB} (g : Gd bs) : CW bs ≤ 184528125 := by
  have := CN_le bs g.ok g.l5
  unfold CW
  omega
theorem shown_ok {bs : List TB} (g : Gd bs) (k : Nat) : ∀ f ∈ shown bs k, f.okB = true ∧ 0 < f.b ∧ f.b ≤ 1000000000000 := by
  intro f hf
  obtain ⟨x, hx, rfl⟩ := List.mem_map.mp hf
  have hC := g.c0
  have hC1 := g.c1
  have hb := LT_bnd k (CW bs) hC bs 0 0 0 g.ok g.dv (by decide) (by decide) x hx
  obtain ⟨r1, r2, r3, r4, r5⟩ := red_spec x (2 * CW bs) (by omega)
  have h5 := g.l5
  have hCl : 8 * CW bs * (bs.length : Int) ≤ 8 * CW bs * 5 := Int.mul_le_mul_of_nonneg_left (by omega) (by omega)
  refine ⟨?_, r2, by omega⟩
  unfold Fr.okB LF
  simp only [Bool.and_eq_true, decide_eq_true_eq]
  exact ⟨⟨by omega, by omega⟩, ⟨by omega, by omega⟩, r4⟩
theorem sc_one {f : Fr} {x U V : Int} (h1 : f.b * (U / f.b) = U) (r1 : f.a * V = x * f.b) : LU U f * V = x * U := by
  unfold LU
  generalize U / f.b = c at h1 ⊢
  subst h1
  grind
theorem shown_sc {bs : List TB} (g : Gd bs) (k : Nat) : Sc (UF (shown bs k)) (2 * CW bs) ((shown bs k).map (LU (UF (shown bs k)))) (LT k (CW bs) 0 bs 0) := by
  have hd := UF_dvd (shown bs k) fun f hf => (shown_ok g k f hf).1
  have hC := g.c0
  have key : ∀ (L : List Int) (U : Int), (∀ f ∈ L.map (fun x => red x (2 * CW bs)), f.b * (U / f.b) = U) → Sc U (2 * CW bs) ((L.map fun x => red x (2 * CW bs)).map (LU U)) L := by
    intro L U
    induction L with
    | nil => intro _; trivial
    | cons x L ih =>
      intro h
      refine ⟨?_, ih fun f hf => h f (List.mem_cons_of_mem _ hf)⟩
      have h1 := h (red x (2 * CW bs)) List.mem_cons_self
      obtain ⟨r1, r2, _⟩ := red_spec x (2 * CW bs) (by omega)
      show LU U (red x (2 * CW bs)) * (2 * CW bs) = x * U
      exact sc_one h1 r1
  exact key _ _ hd
theorem shown_tow {bs : List TB} (g : Gd bs) (k : Nat) : isTow bs (shown bs k) = true := by
  rw [isTow_iff bs _ (shown_len bs k)]
  have hC := g.c0
  obtain ⟨s1, s2⟩ := LT_stands k (CW bs) hC bs 0 0 g.ok g.dv
  have hsc := shown_sc g k
  have hU := UF_pos (shown bs k) fun f hf => (shown_ok g k f hf).1
  have hT := Sc_TS bs _ _ hsc
  rw [s2, Int.mul_zero, Int.zero_mul] at hT
  refine ⟨?_, Sc_St hU (by omega) bs _ _ hsc s1⟩
  rcases Int.lt_or_le 0 (TS (UF (shown bs k)) bs ((shown bs k).map (LU (UF (shown bs k))))) with h | h
  · have := Int.mul_pos h (show (0 : Int) < 2 * CW bs by omega)
    omega
  · exact h
end DL
namespace DL
open PySem PySem.Spec PyProof.Rows L2
theorem RR_Rx {bs : List TB} (g : Gd bs) (j : Nat) (hj : j < bs.length) : RR (CW bs) bs j = Rx (CW bs) j bs 0 := by
  have h := LT_at (CW bs) bs 0 j 0 (bs.getD j ⟨0, 0⟩) (getD_of hj) g.ok g.dv
  rw [Nat.zero_add] at h
  exact h
theorem own_le {bs : List TB} (g : Gd bs) (fs : List Fr) (R : Int) (hR : ∀ j, j < bs.length → RR (CW bs) bs j ≤ R) (hl : fs.length = bs.length) (hf : ∀ f ∈ fs, f.okB = true) (ht : isTow bs fs = true) : ∀ p ∈ List.zip bs fs, (ownF p.1 p.2).a * (2 * CW bs) ≤ R * (ownF p.1 p.2).b := by
  intro p hp
  obtain ⟨j, hj⟩ := List.getElem?_of_mem hp
  obtain ⟨hj1, hj2⟩ : bs[j]? = some p.1 ∧ fs[j]? = some p.2 := by
    rw [List.getElem?_zip_eq_some] at hj
    exact hj
  have hjl := (List.getElem?_eq_some_iff.mp hj1).1
  obtain ⟨h1, h2⟩ := (isTow_iff bs fs hl).mp ht
  have hU := UF_pos fs hf
  have hC := g.c0
  have hd := UF_dvd fs hf p.2 (List.mem_of_getElem? hj2)
  have hb := (Fr.bnd (hf p.2 (List.mem_of_getElem? hj2))).2.2.1
  have ho := opt (UF fs) (CW bs) hU hC bs (fs.map (LU (UF fs))) 0 j p.1 (LU (UF fs) p.2) g.ok (by rw [List.length_map]; exact hl) g.dv h2 (by
    rw [Int.mul_zero]
    exact Int.mul_nonpos_of_nonneg_of_nonpos (Int.le_of_lt hC) h1) hj1 (by rw [List.getElem?_map, hj2]; rfl)
  rw [← RR_Rx g j hjl] at ho
  have ho2 : 2 * CW bs * (LU (UF fs) p.2 + p.1.w * UF fs) ≤ UF fs * R := Int.le_trans ho (Int.mul_le_mul_of_nonneg_left (hR j hjl) (Int.le_of_lt hU))
  have hlu : LU (UF fs) p.2 * p.2.b = p.2.a * UF fs := by
    unfold LU
    generalize UF fs / p.2.b = c at hd ⊢
    rw [← hd]
    grind
  show (p.2.a + p.1.w * p.2.b) * (2 * CW bs) ≤ R * p.2.b
  have a1 := Int.mul_le_mul_of_nonneg_right ho2 (show (0 : Int) ≤ p.2.b by omega)
  generalize LU (UF fs) p.2 = l at a1 hlu
  generalize UF fs = U at a1 hlu hU
  have e1 : 2 * CW bs * (l + p.1.w * U) * p.2.b = (p.2.a + p.1.w * p.2.b) * (2 * CW bs) * U := by grind
  have e2 : U * R * p.2.b = R * p.2.b * U := by grind
  exact Int.le_of_mul_le_mul_right (by omega) hU
theorem own_at {bs : List TB} (g : Gd bs) (k : Nat) (hk : k < bs.length) : ∃ p ∈ List.zip bs (shown bs k), (ownF p.1 p.2).a * (2 * CW bs) = RR (CW bs) bs k * (ownF p.1 p.2).b ∧ 0 < (ownF p.1 p.2).b := by
  have hC := g.c0
  have hLl := LT_len k (CW bs) bs 0 0
  have hx : (LT k (CW bs) 0 bs 0)[k]? = some ((LT k (CW bs) 0 bs 0).getD k 0) := getD_of (by omega)
  have hf : (shown bs k)[k]? = some (red ((LT k (CW bs) 0 bs 0).getD k 0) (2 * CW bs)) := by
    unfold shown
    rw [List.getElem?_map, hx]
    rfl
  have hb : bs[k]? = some (bs.getD k ⟨0, 0⟩) := getD_of hk
  refine ⟨(bs.getD k ⟨0, 0⟩, red ((LT k (CW bs) 0 bs 0).getD k 0) (2 * CW bs)), ?_, ?_⟩
  · refine List.mem_of_getElem? (i := k) ?_
    rw [List.getElem?_zip_eq_some]
    exact ⟨hb, hf⟩
  · obtain ⟨r1, r2, _⟩ := red_spec ((LT k (CW bs) 0 bs 0).getD k 0) (2 * CW bs) (by omega)
    unfold RR ownF
    generalize red ((LT k (CW bs) 0 bs 0).getD k 0) (2 * CW bs) = f at r1 r2 ⊢
    refine ⟨?_, r2⟩
    show (f.a + (bs.getD k ⟨0, 0⟩).w * f.b) * (2 * CW bs) = _
    grind
/-- what the law asks of far, the reach as it is told -/
theorem far_own {bs : List TB} (g : Gd bs) (k : Nat) (hk : k < bs.length) (hM : ∀ j, j < bs.length → RR (CW bs) bs j ≤ RR (CW bs) bs k) (r F : Fr) (hF : F.a * (2 * CW bs) = RR (CW bs) bs k * F.b) (hF0 : 0 < F.b)
    (hr : ∃ p ∈ List.zip bs (shown bs k), r = ownF p.1 p.2) (hr0 : 0 < r.b) (hm : ∀ p ∈ List.zip bs (shown bs k), (ownF p.1 p.2).a * r.b ≤ r.a * (ownF p.1 p.2).b) : r.a * F.b = F.a * r.b := by
  have hC := g.c0
  obtain ⟨p, hp, rfl⟩ := hr
  have h1 := own_le g (shown bs k) _ hM (shown_len bs k) (fun f hf => (shown_ok g k f hf).1) (shown_tow g k) p hp
  obtain ⟨q, hq, q1, q2⟩ := own_at g k hk
  have h2 := hm q hq
  generalize ownF p.1 p.2 = r at h1 h2 hr0 ⊢
  generalize ownF q.1 q.2 = o at h2 q1 q2
  generalize RR (CW bs) bs k = R at h1 q1 hF
  generalize CW bs = C at *
  have h3 : R * r.b ≤ r.a * (2 * C) := by
    have := Int.mul_le_mul_of_nonneg_right h2 (show (0 : Int) ≤ 2 * C by omega)
    have e1 : o.a * r.b * (2 * C) = R * r.b * o.b := by grind
    have e2 : r.a * o.b * (2 * C) = r.a * (2 * C) * o.b := by grind
    exact Int.le_of_mul_le_mul_right (by omega) q2
  have h4 : r.a * (2 * C) = R * r.b := by omega
  have : (r.a * F.b) * (2 * C) = (F.a * r.b) * (2 * C) := by grind
  exact Int.eq_of_mul_eq_mul_right (by omega) this
theorem far_other {C R : Int} (hC : 0 < C) (r F : Fr) (hF : F.a * (2 * C) = R * F.b) (hF0 : 0 < F.b) (h : r.a * (2 * C) ≤ R * r.b) : r.a * F.b ≤ F.a * r.b := by
  have a1 := Int.mul_le_mul_of_nonneg_right h (Int.le_of_lt hF0)
  have e1 : r.a * (2 * C) * F.b = r.a * F.b * (2 * C) := by grind
  have e2 : R * r.b * F.b = F.a * r.b * (2 * C) := by grind
  exact Int.le_of_mul_le_mul_right (by omega) (show (0 : Int) < 2 * C by omega)
theorem far_half {bs : List TB} (g : Gd bs) (k : Nat) (hM : ∀ j, j < bs.length → RR (CW bs) bs j ≤ RR (CW bs) bs k) (F : Fr) (hF : F.a * (2 * CW bs) = RR (CW bs) bs k * F.b) (hF0 : 0 < F.b) (b : TB) (hb : bs[0]? = some b) : b.w * F.b ≤ 2 * F.a := by
  have hC := g.c0
  have hl := g.l1
  have h0 := hM 0 (by omega)
  rw [RR_Rx g 0 (by omega)] at h0
  have h1 : b.w * CW bs ≤ Rx (CW bs) 0 bs 0 := by
    match bs, hb with
    | b0 :: bt, hb =>
      simp only [List.getElem?_cons_zero, Option.some.injEq] at hb
      subst hb
      have hW : 0 < WT (b0 :: bt) := WT_pos _ g.ok (by simp)
      have hW' := WT_nonneg bt fun x hx => g.ok x (List.mem_cons_of_mem _ hx)
      have hWc := WT_cons b0 bt
      obtain ⟨w0, w1, t0, t1⟩ := g.ok b0 List.mem_cons_self
      have : 0 ≤ b0.w * CW (b0 :: bt) * (WT (b0 :: bt) - b0.t) / WT (b0 :: bt) := Int.ediv_nonneg (Int.mul_nonneg (Int.mul_nonneg (by omega) (by omega)) (by omega)) (by omega)
      unfold Rx
      omega
  generalize Rx (CW bs) 0 bs 0 = X at h0 h1
  generalize RR (CW bs) bs k = R at h0 hF
  generalize CW bs = C at *
  have a1 := Int.mul_le_mul_of_nonneg_right (Int.le_trans h1 h0) (Int.le_of_lt hF0)
  have e1 : b.w * C * F.b = b.w * F.b * C := by grind
  have e2 : R * F.b = 2 * F.a * C := by grind
  exact Int.le_of_mul_le_mul_right (by omega) hC
theorem reach_eq (ns : List Int) (bs : List TB) (g : Gd bs) : ∃ k, k < bs.length ∧ (∀ m, m_reach ns [.tuple (bs.map TB.d)] m = some ((red (RR (CW bs) bs k) (2 * CW bs)).d, m)) ∧ (∀ m, m_reaching_tower ns [.tuple (bs.map TB.d)] m = some (.tuple ((shown bs k).map Fr.d), m)) ∧ ∀ j, j < bs.length → RR (CW bs) bs j ≤ RR (CW bs) bs k := by
  have hC := g.c0
  have hC1 := g.c1
  obtain ⟨k, hk, hf, hM⟩ := farthest_eq ns bs 0 g.ok g.l1 g.l5
  have hc := fun m => check_blocks_eq ns bs m g.ok g.l1 g.l5
  refine ⟨k, hk, fun m => ?_, fun m => ?_, hM⟩
  · have h1 : m_reach_of ns [.tuple (bs.map TB.d)] m = some ((red (RR (CW bs) bs k) (2 * CW bs)).d, m) := reach_of_ap _ _ _ _ _ _ _ m (hf m) (reduced_eq ns _ _ m (by omega) (by omega))
    exact reach_ap _ _ _ _ m (hc m) h1
  · have := tower_ap (m_check_blocks ns) (m_farthest_tower ns) (m_reduced ns) (.tuple (bs.map TB.d)) (RR (CW bs) bs k) (2 * CW bs) (LT k (CW bs) 0 bs 0) (fun x => (red x (2 * CW bs)).d) m (hc m) (hf m) (fun x _ m => reduced_eq ns x _ m (by omega) (by omega)) (fun _ => rfl) (by rw [LT_len]; have := g.l5; omega)
    have e : (LT k (CW bs) 0 bs 0).map (fun x => (red x (2 * CW bs)).d) = (shown bs k).map Fr.d := by
      unfold shown
      rw [List.map_map]
      rfl
    rw [e] at this
    exact this
end DL
namespace DL
open PySem PySem.Spec PyProof.Rows L2
theorem dBin_of {h : D → D → Option D} {f g : DEnv → M D} {ρ : DEnv} {n n1 n2 : Nat} {x y z : D} (h1 : f ρ n = some (x, n1)) (h2 : g ρ n1 = some (y, n2)) (h3 : h x y = some z) : dBin h f g ρ n = some (z, n2) := by
  unfold dBin
  rw [h1]
  dsimp only
  rw [h2]
  dsimp only
  rw [h3]
theorem dComp_filter {g : TgD} {t : DEnv → M Bool} {f : DEnv → M D} {ρ : DEnv} {c : D → Bool} {p : D → D} : ∀ (ds : List D) (n : Nat), (∀ d ∈ ds, ∀ m, ∃ ρ1, g d ρ = some ρ1 ∧ t ρ1 m = some (c d, m) ∧ (c d = true → f ρ1 m = some (p d, m) ∧ noDict (p d) = true)) → dComp g t f ρ ds n = some ((ds.filter c).map p, n)
  | [], _, _ => rfl
  | d :: ds, n, h => by
    obtain ⟨ρ1, h1, h2, h3⟩ := h d List.mem_cons_self n
    have ih := dComp_filter ds n fun e he => h e (List.mem_cons_of_mem _ he)
    unfold dComp
    rw [h1]
    dsimp only
    rw [h2, List.filter_cons]
    cases hc : c d with
    | false =>
      dsimp only
      rw [ih, if_neg (by decide)]
    | true =>
      obtain ⟨h4, h5⟩ := h3 hc
      dsimp only
      rw [h4]
      dsimp only
      rw [if_pos h5, ih, if_pos rfl, List.map_cons]
theorem eq_int1 (a b : Int) : hEqD (.int a) (.int b) = some (.bool (decide (a = b))) := by
  have h : ∀ i : Int, SeqAt.shaped (.int i) = true := fun i => rfl
  unfold hEqD
  rw [h, h]
  have e : PyData.eqv (.int a) (.int b) = decide (a = b) := by simp [PyData.eqv]; rfl
  rw [e]
  rfl
theorem test_to' {f : DEnv → M D} {ρ : DEnv} {n n' : Nat} {b : Bool} (h : f ρ n = some (.bool b, n')) : dTest f ρ n = some (b, n') := by
  unfold dTest
  rw [h]
theorem iR1_n {f : DEnv → M D} {ρ : DEnv} {n : Nat} {j : Int} (h : f ρ n = some (.int j, n)) (h0 : -1000000 ≤ j) (h1 : j ≤ 1000000) : iR1 (dAs [f]) ρ n = some (rangeD 0 j.toNat, n) := by
  unfold iR1 dAs
  rw [h]
  simp only [dAs]
  rw [if_pos (by omega)]
def natI (l : List Nat) : List D := l.map fun (k : Nat) => PyData.int k
theorem dLc_w {it : DEnv → M (List D)} {vs : List Nat} {g : TgD} {t : DEnv → M Bool} {f : DEnv → M D} {ρ : DEnv} {n n1 n2 : Nat} {ds xs : List D} (h1 : it ρ n = some (ds, n1)) (h2 : ds.length ≤ 16777216) (h3 : dComp g t f (wipeD ρ vs) ds n1 = some (xs, n2)) : dLc it vs g t f ρ n = some (.list xs, n2) := by
  unfold dLc
  rw [h1]
  simp only
  rw [if_pos h2, h3]
theorem filter_map_nat (p : Nat → Bool) (l : List Nat) (c : D → Bool) (h : ∀ k ∈ l, c (.int (k : Nat)) = p k) : ((l.map fun (k : Nat) => PyData.int k).filter c) = (l.filter p).map fun (k : Nat) => PyData.int k := by
  rw [List.filter_map]
  congr 1
  exact List.filter_congr fun k hk => h k hk
theorem rangeD_nat (n : Nat) : rangeD 0 n = natI (List.range n) := by
  unfold rangeD natI
  exact List.map_congr_left fun k _ => by rw [Int.zero_add]
def iOf : D → Nat
  | .int i => i.toNat
  | _ => 0
theorem sIf_t {t : DEnv → M Bool} {S T : SDen} {ρ : DEnv} {n n1 : Nat} {r : Option (Out × Nat)} (h : t ρ n = some (true, n1)) (h2 : S ρ n1 = r) : sIf t S T ρ n = r := by
  unfold sIf dIf; rw [h]; exact h2
theorem sIf_f {t : DEnv → M Bool} {S T : SDen} {ρ : DEnv} {n n1 : Nat} {r : Option (Out × Nat)} (h : t ρ n = some (false, n1)) (h2 : T ρ n1 = r) : sIf t S T ρ n = r := by
  unfold sIf dIf; rw [h]; exact h2
theorem sSet_v {i : Nat} {f : DEnv → M D} {ρ : DEnv} {n n' : Nat} {d : D} (h : f ρ n = some (d, n')) : sSet i f ρ n = some (.nx (ρ.set i (some d)), n') := by unfold sSet; rw [h]
theorem sParO_v {i j : Nat} {f g : DEnv → M D} {ρ : DEnv} {n n1 n2 : Nat} {ds es : List D} (h1 : f ρ n = some (.list ds, n1)) (h2 : g ρ n1 = some (.list es, n2)) : sParO i j f g ρ n = some (.nx ((ρ.set i (some (.list ds))).set j (some (.list es))), n2) := by
  unfold sParO
  rw [h1]
  dsimp only
  rw [h2]
theorem call1' {F : List D → M D} {f : DEnv → M D} {ρ : DEnv} {n n' : Nat} {x z : D} (h : f ρ n = some (x, n)) (h2 : F [x] n = some (z, n')) : dCall F (dAs [f]) ρ n = some (z, n') := by
  unfold dCall dAs
  rw [h]
  simp only [dAs]
  exact h2
theorem call2 {F : List D → M D} {f g : DEnv → M D} {ρ : DEnv} {n : Nat} {x y z : D} {n' : Nat} (h : f ρ n = some (x, n)) (h1 : g ρ n = some (y, n)) (h2 : F [x, y] n = some (z, n')) : dCall F (dAs [f, g]) ρ n = some (z, n') := by
  unfold dCall dAs
  rw [h]
  simp only [dAs, h1]
  exact h2
theorem not_of {t : DEnv → M Bool} {ρ : DEnv} {n n' : Nat} {b : Bool} (h : t ρ n = some (b, n')) : dNot t ρ n = some (!b, n') := by
  unfold dNot
  rw [h]
theorem orF {t u : DEnv → M Bool} {ρ : DEnv} {n n' : Nat} {r : Option (Bool × Nat)} (h : t ρ n = some (false, n')) (h2 : u ρ n' = r) : dOr t u ρ n = r := by
  unfold dOr dIf; rw [h]; exact h2
theorem orT {t u : DEnv → M Bool} {ρ : DEnv} {n n' : Nat} (h : t ρ n = some (true, n')) : dOr t u ρ n = some (true, n') := by
  unfold dOr dIf; rw [h]
theorem andF {t u : DEnv → M Bool} {ρ : DEnv} {n n' : Nat} (h : t ρ n = some (false, n')) : dAnd t u ρ n = some (false, n') := by
  unfold dAnd dIf; rw [h]
theorem andT {t u : DEnv → M Bool} {ρ : DEnv} {n n' : Nat} {r : Option (Bool × Nat)} (h : t ρ n = some (true, n')) (h2 : u ρ n' = r) : dAnd t u ρ n = r := by
  unfold dAnd dIf; rw [h]; exact h2
theorem fnD_nx {k : Nat} {S : SDen} {ds : List D} {ρ ρ' : DEnv} {n n' : Nat} (h1 : startD k ds = ρ) (h2 : S ρ n = some (.nx ρ', n')) : fnD k S ds n = some (.none, n') := by
  unfold fnD
  rw [h1, h2]
def ordD (o : List Nat) : D := .tuple (natI o)
def extN (N : Nat) (o : List Nat) : List (List Nat) := ((List.range N).filter fun k => !decide (k ∈ o)).map fun k => o ++ [k]
def ordsN (N : Nat) : Nat → List (List Nat)
  | 0 => [[]]
  | j + 1 => (ordsN N j).flatMap (extN N)
theorem flatI (l : List Nat) : (natI l).all flatD = true := List.all_eq_true.mpr fun d hd => by
  obtain ⟨k, _, rfl⟩ := List.mem_map.mp hd
  rfl
theorem eqvN (a b : Nat) : PyData.eqv (.int (a : Nat)) (.int (b : Nat)) = decide (a = b) := by
  have : PyData.eqv (.int (a : Nat)) (.int (b : Nat)) = decide ((a : Int) = (b : Int)) := by simp [PyData.eqv]; rfl
  rw [this]
  exact decide_eq_decide.mpr (by omega)
theorem anyI (k : Nat) (l : List Nat) : ((natI l).any fun y => PyData.eqv y (.int (k : Nat))) = decide (k ∈ l) := by
  unfold natI
  rw [List.any_map, Bool.eq_iff_iff, List.any_eq_true, decide_eq_true_eq]
  constructor
  · rintro ⟨x, hx, h⟩
    have h' : PyData.eqv (.int (x : Nat)) (.int (k : Nat)) = true := h
    rw [eqvN, decide_eq_true_eq] at h'
    exact h' ▸ hx
  · intro h
    refine ⟨k, h, ?_⟩
    show PyData.eqv (.int (k : Nat)) (.int (k : Nat)) = true
    rw [eqvN, decide_eq_true rfl]
theorem notin_tup (k : Nat) (l : List Nat) : hNotIn (.int (k : Nat)) (.tuple (natI l)) = some (.bool (!decide (k ∈ l))) := by
  unfold hNotIn
  dsimp only
  rw [if_pos ⟨rfl, flatI l⟩, anyI]
theorem natI_len (l : List Nat) : (natI l).length = l.length := List.length_map ..
theorem cat_tup (o : List Nat) (k : Nat) (ho : o.length ≤ 100) : hAdd (.tuple (natI o)) (.tuple [.int (k : Nat)]) = some (ordD (o ++ [k])) := by
  unfold hAdd
  dsimp only
  rw [if_pos (by rw [natI_len, List.length_singleton, show LIM = 16777216 from rfl]; omega)]
  unfold ordD natI
  rw [List.map_append]
  rfl
abbrev OE (N : Nat) (L : List (List Nat)) (e2 : Option D) (acc : Option D) (e4 e5 : Option D) : DEnv := [some (.int (N : Nat)), some (.list (L.map ordD)), e2, acc, e4, e5]
abbrev extE : DEnv → M D := (dLc (iR1 (dAs [(dVar 0)])) [5] (gNm 5) (dTest (dBin hNotIn (dVar 5) (dVar 4))) (dBin hAdd (dVar 4) (dUnA hTup (dAs [(dVar 5)]))))
theorem ext_eq {N : Nat} (hN : N ≤ 100) (L : List (List Nat)) (o : List Nat) (ho : o.length ≤ 100) (e2 acc e5 : Option D) (n : Nat) : extE (OE N L e2 acc (some (ordD o)) e5) n = some (.list ((extN N o).map ordD), n) := by
  have hcomp := dComp_filter (g := gNm 5) (t := dTest (dBin hNotIn (dVar 5) (dVar 4))) (f := dBin hAdd (dVar 4) (dUnA hTup (dAs [(dVar 5)]))) (ρ := OE N L e2 acc (some (ordD o)) none) (c := fun d => !decide (iOf d ∈ o)) (p := fun d => ordD (o ++ [iOf d])) (natI (List.range N)) n fun d hd m => by
    obtain ⟨k, hk, rfl⟩ := List.mem_map.mp hd
    have e : iOf (.int (k : Nat)) = k := Int.toNat_natCast k
    rw [e]
    refine ⟨OE N L e2 acc (some (ordD o)) (some (.int (k : Nat))), rfl, test_to' (dBin_of (f := dVar 5) (x := .int (k : Nat)) (n1 := m) rfl (g := dVar 4) (y := .tuple (natI o)) (n2 := m) rfl (notin_tup k o)), fun _ => ⟨dBin_of (f := dVar 4) (x := .tuple (natI o)) (n1 := m) rfl (g := dUnA hTup (dAs [(dVar 5)])) (y := .tuple [.int (k : Nat)]) (n2 := m) rfl (cat_tup o k ho), rfl⟩⟩
  have hl : ((natI (List.range N)).filter fun d => !decide (iOf d ∈ o)).map (fun d => ordD (o ++ [iOf d])) = (extN N o).map ordD := by
    have hf : (natI (List.range N)).filter (fun d => !decide (iOf d ∈ o)) = natI ((List.range N).filter fun k => !decide (k ∈ o)) := filter_map_nat (fun k => !decide (k ∈ o)) _ _ fun j _ => by rw [show iOf (.int (j : Nat)) = j from Int.toNat_natCast j]
    rw [hf]
    unfold extN natI
    rw [List.map_map, List.map_map]
    refine List.map_congr_left fun k _ => ?_
    show ordD (o ++ [iOf (.int (k : Nat))]) = ordD (o ++ [k])
    rw [show iOf (.int (k : Nat)) = k from Int.toNat_natCast k]
  rw [hl] at hcomp
  have hit : iR1 (dAs [(dVar 0)]) (OE N L e2 acc (some (ordD o)) e5) n = some (natI (List.range N), n) := by
    have := iR1_n (f := dVar 0) (ρ := OE N L e2 acc (some (ordD o)) e5) (n := n) (j := (N : Nat)) rfl (by omega) (by omega)
    rw [Int.toNat_natCast, rangeD_nat] at this
    exact this
  exact dLc_w (vs := [5]) hit (by rw [natI_len, List.length_range]; omega) hcomp
theorem sMut_w {i : Nat} {h : List D → List D → Option (List D)} {A : DEnv → M (List D)} {ρ : DEnv} {n n' : Nat} {as ds ds' : List D} (h1 : A ρ n = some (as, n')) (h2 : ρ[i]? = some (some (.list ds))) (h3 : h ds as = some ds') : sMut i h A ρ n = some (.nx (ρ.set i (some (.list ds'))), n') := by
  unfold sMut
  rw [h1]
  simp only
  rw [h2]
  simp only
  rw [h3]
theorem dAs1 {f : DEnv → M D} {ρ : DEnv} {n n' : Nat} {x : D} (h : f ρ n = some (x, n')) : dAs [f] ρ n = some ([x], n') := by
  unfold dAs
  rw [h]
  rfl
theorem dU1 {h : List D → Option D} {f : DEnv → M D} {ρ : DEnv} {n n' : Nat} {x z : D} (h1 : f ρ n = some (x, n')) (h2 : h [x] = some z) : dUnA h (dAs [f]) ρ n = some (z, n') := by
  unfold dUnA
  rw [dAs1 h1]
  dsimp only
  rw [h2]
theorem ext_lst {ds es : List D} (h : ds.length + es.length ≤ 1000) : hExtend ds [.list es] = some (ds ++ es) := by
  unfold hExtend
  dsimp only
  rw [if_pos (by rw [show LIM = 16777216 from rfl]; omega)]
theorem ords_turn {N : Nat} (hN : N ≤ 100) (L : List (List Nat)) (e2 e4 e5 : Option D) (n : Nat) (o : List Nat) (ho : o.length ≤ 100) (acc : List D) (hb : acc.length + (extN N o).length ≤ 1000) : gNm 4 (ordD o) (OE N L e2 (some (.list acc)) e4 e5) = some (OE N L e2 (some (.list acc)) (some (ordD o)) e5) ∧ sMut 3 hExtend (dAs [extE]) (OE N L e2 (some (.list acc)) (some (ordD o)) e5) n = some (.nx (OE N L e2 (some (.list (acc ++ (extN N o).map ordD))) (some (ordD o)) e5), n) :=
  ⟨rfl, sMut_w (ds := acc) (dAs1 (ext_eq hN L o ho e2 (some (.list acc)) e5 n)) rfl (ext_lst (by rw [List.length_map]; exact hb))⟩
theorem ords_inner {N B : Nat} (hN : N ≤ 100) (hB : B ≤ 1000) (L : List (List Nat)) (e2 e5 : Option D) (n : Nat) (S : SDen) (hS : S = sMut 3 hExtend (dAs [extE])) (os : List (List Nat)) : ∀ (acc : List D) (e4 : Option D), (∀ o ∈ os, o.length ≤ 100) → acc.length + (os.flatMap (extN N)).length ≤ B → ∃ e4', dFor (gNm 4) S (os.map ordD) (OE N L e2 (some (.list acc)) e4 e5) n = some (.nx (OE N L e2 (some (.list (acc ++ (os.flatMap (extN N)).map ordD))) e4' e5), n) := by
  induction os with
  | nil =>
    intro acc e4 _ _
    refine ⟨e4, ?_⟩
    show _ = some (Out.nx (OE N L e2 (some (.list (acc ++ []))) e4 e5), n)
    rw [List.append_nil]
    rfl
  | cons o os ih =>
    intro acc e4 ho hb
    rw [List.flatMap_cons, List.length_append] at hb
    obtain ⟨h1, h2⟩ := ords_turn hN L e2 e4 e5 n o (ho o List.mem_cons_self) acc (by omega)
    rw [← hS] at h2
    obtain ⟨e4', h3⟩ := ih (acc ++ (extN N o).map ordD) (some (ordD o)) (fun x hx => ho x (List.mem_cons_of_mem _ hx)) (by rw [List.length_append, List.length_map]; omega)
    refine ⟨e4', ?_⟩
    rw [List.map_cons]
    unfold dFor
    rw [h1]
    dsimp only
    rw [h2]
    dsimp only
    rw [h3, List.flatMap_cons, List.map_append, List.append_assoc]
theorem ords_len {N : Nat} : ∀ (j : Nat), ∀ o ∈ ordsN N j, o.length = j
  | 0, o, ho => by
    have : o = [] := List.mem_singleton.mp ho
    rw [this]
    rfl
  | j + 1, o, ho => by
    obtain ⟨p, hp, hq⟩ := List.mem_flatMap.mp ho
    obtain ⟨k, _, rfl⟩ := List.mem_map.mp hq
    rw [List.length_append, List.length_singleton, ords_len j p hp]
theorem ords_abs {N : Nat} (hN : N ≤ 50) (hs : ∀ j, j ≤ N → (ordsN N j).length ≤ 900) (n : Nat) : fnD 6 (sSeq (sSet 1 (dUnA hLst (dAs [(dUnA hTup (dAs []))]))) (sSeq (sFor (iR1 (dAs [(dVar 0)])) (gNm 2) (sSeq (sSet 3 (fLst (dUnA hLst (dAs [])))) (sSeq (sFor (iL (dVar 1)) (gNm 4) (sMut 3 hExtend (dAs [extE]))) (sSet 1 (dVar 3))))) (sRet (dVar 1)))) [.int (N : Nat)] n = some (.list ((ordsN N N).map ordD), n) := by
  have s1 : sSet 1 (dUnA hLst (dAs [(dUnA hTup (dAs []))])) [some (.int (N : Nat)), none, none, none, none, none] n = some (.nx (OE N (ordsN N 0) none none none none), n) := by
    have h0 : hLst [PyData.tuple []] = some (.list [.tuple []]) := if_pos ⟨rfl, by show 1 ≤ 16777216; decide⟩
    exact sSet_v (dU1 (f := dUnA hTup (dAs [])) (x := .tuple []) (n' := n) rfl h0)
  obtain ⟨ρ2, n2, f1, e2, e3, e4, hρ, hn2⟩ := dFor_inv (g := gNm 2) (S := (sSeq (sSet 3 (fLst (dUnA hLst (dAs [])))) (sSeq (sFor (iL (dVar 1)) (gNm 4) (sMut 3 hExtend (dAs [extE]))) (sSet 1 (dVar 3))))) (fun j ρ m => ∃ e2 e3 e4, ρ = OE N (ordsN N j) e2 e3 e4 none ∧ m = n) (natI (List.range N)) 0 (OE N (ordsN N 0) none none none none) n ⟨none, none, none, rfl, rfl⟩ (fun j d ρ m hj hI => by
    obtain ⟨e2, e3, e4, rfl, rfl⟩ := hI
    rw [Nat.zero_add]
    have hjl : j < N := by
      have := (List.getElem?_eq_some_iff.mp hj).1
      rwa [natI_len, List.length_range] at this
    unfold natI at hj
    rw [List.getElem?_map, List.getElem?_range hjl] at hj
    cases hj
    have h0 : hLst ([] : List D) = some (.list []) := rfl
    have t1 : sSet 3 (fLst (dUnA hLst (dAs []))) (OE N (ordsN N j) (some (.int (j : Nat))) e3 e4 none) m = some (.nx (OE N (ordsN N j) (some (.int (j : Nat))) (some (.list [])) e4 none), m) := by
      refine sSet_v ?_
      unfold fLst dUnA
      rw [show dAs [] (OE N (ordsN N j) (some (.int (j : Nat))) e3 e4 none) m = some ([], m) from rfl]
      dsimp only
      rw [h0]
    obtain ⟨e4', t2⟩ := ords_inner (N := N) (B := 1000) (by omega) (Nat.le_refl _) (ordsN N j) (some (.int (j : Nat))) none m _ rfl (ordsN N j) [] e4 (fun o ho => by rw [ords_len j o ho]; omega) (by
      have := hs (j + 1) (by omega)
      show 0 + (ordsN N (j + 1)).length ≤ 1000
      omega)
    rw [List.nil_append] at t2
    refine ⟨OE N (ordsN N j) (some (.int (j : Nat))) e3 e4 none, _, m, rfl, sSeq_to t1 (sSeq_to (sFor_of (n1 := m) (ds := (ordsN N j).map ordD) rfl t2) rfl), some (.int (j : Nat)), some (.list ((ordsN N (j + 1)).map ordD)), e4', rfl, rfl⟩)
  have hlr : (natI (List.range N)).length = N := by rw [natI_len, List.length_range]
  rw [Nat.zero_add, hlr] at hρ
  rw [hρ, hn2] at f1
  have hit : iR1 (dAs [(dVar 0)]) (OE N (ordsN N 0) none none none none) n = some (natI (List.range N), n) := by
    have := iR1_n (f := dVar 0) (ρ := OE N (ordsN N 0) none none none none) (n := n) (j := (N : Nat)) rfl (by omega) (by omega)
    rw [Int.toNat_natCast, rangeD_nat] at this
    exact this
  exact fnD_of (ρ := [some (.int (N : Nat)), none, none, none, none, none]) rfl (sSeq_to s1 (sSeq_to (sFor_of hit f1) rfl))
end DL
namespace DL
open PySem PySem.Spec PyProof.Rows L2
/-! ### the reach by functions; the best sequence -/
def foldm (f : Nat → Int) : List Nat → Int → Int
  | [], m => m
  | j :: L, m => foldm f L (if m < f j then f j else m)
theorem foldm_le (f : Nat → Int) (R : Int) : ∀ (L : List Nat) (m : Int), m ≤ R → (∀ j ∈ L, f j ≤ R) → foldm f L m ≤ R
  | [], m, h, _ => h
  | j :: L, m, h, hL => by
    unfold foldm
    refine foldm_le f R L _ ?_ fun i hi => hL i (List.mem_cons_of_mem _ hi)
    split
    · exact hL j List.mem_cons_self
    · exact h
theorem foldm_ge (f : Nat → Int) : ∀ (L : List Nat) (m : Int), m ≤ foldm f L m ∧ ∀ j ∈ L, f j ≤ foldm f L m
  | [], m => ⟨Int.le_refl _, fun _ h => absurd h List.not_mem_nil⟩
  | j :: L, m => by
    unfold foldm
    obtain ⟨h1, h2⟩ := foldm_ge f L (if m < f j then f j else m)
    have e1 : m ≤ (if m < f j then f j else m) := by split <;> omega
    have e2 : f j ≤ (if m < f j then f j else m) := by split <;> omega
    refine ⟨Int.le_trans e1 h1, fun i hi => ?_⟩
    rcases List.mem_cons.mp hi with rfl | hi
    · exact Int.le_trans e2 h1
    · exact h2 i hi
def RM (bs : List TB) : Int := foldm (RR (CW bs) bs) (List.range bs.length) (RR (CW bs) bs 0)
theorem RM_eq {bs : List TB} {k : Nat} (hk : k < bs.length) (h : ∀ j, j < bs.length → RR (CW bs) bs j ≤ RR (CW bs) bs k) : RM bs = RR (CW bs) bs k :=
  Int.le_antisymm (foldm_le _ _ _ _ (h 0 (by omega)) fun j hj => h j (List.mem_range.mp hj)) ((foldm_ge _ _ _).2 k (List.mem_range.mpr hk))
def rch (bs : List TB) : Fr := red (RM bs) (2 * CW bs)
def bD (bs : List TB) : D := .tuple (bs.map TB.d)
theorem rch_pos {bs : List TB} (g : Gd bs) : 0 < (rch bs).b ∧ (rch bs).b ≤ 1000000000000 := by
  have hC := g.c0
  have hC1 := g.c1
  obtain ⟨r1, r2, r3, _⟩ := red_spec (RM bs) (2 * CW bs) (by omega)
  unfold rch
  omega
theorem rch_frac {bs : List TB} (g : Gd bs) : (rch bs).a * (2 * CW bs) = RM bs * (rch bs).b := by
  have hC := g.c0
  obtain ⟨r1, r2, r3, _⟩ := red_spec (RM bs) (2 * CW bs) (by omega)
  exact r1
theorem reach_of_eq (ns : List Int) {bs : List TB} (g : Gd bs) (m : Nat) : m_reach_of ns [bD bs] m = some ((rch bs).d, m) := by
  have hC := g.c0
  have hC1 := g.c1
  obtain ⟨k, hk, hf, hM⟩ := farthest_eq ns bs 0 g.ok g.l1 g.l5
  have h1 : m_reach_of ns [.tuple (bs.map TB.d)] m = some ((red (RR (CW bs) bs k) (2 * CW bs)).d, m) := reach_of_ap _ _ _ _ _ _ _ m (hf m) (reduced_eq ns _ _ m (by omega) (by omega))
  unfold rch
  rw [RM_eq hk hM]
  exact h1
theorem checkb_eq (ns : List Int) {bs : List TB} (g : Gd bs) (m : Nat) : m_check_blocks ns [bD bs] m = some (.none, m) := check_blocks_eq ns bs m g.ok g.l1 g.l5
theorem reach_fn (ns : List Int) {bs : List TB} (g : Gd bs) (m : Nat) : m_reach ns [bD bs] m = some ((rch bs).d, m) := reach_ap _ _ _ _ m (checkb_eq ns g m) (reach_of_eq ns g m)
/-- g reaches farther -/
def gtF (f g : Fr) : Bool := decide (g.a * f.b < f.a * g.b)
theorem greater_eq (ns : List Int) (f g : Fr) (m : Nat) (hf : 0 < f.b ∧ f.b ≤ 1000000000000) (hg : 0 < g.b ∧ g.b ≤ 1000000000000) : m_is_greater ns [f.d, g.d] m = some (.bool (gtF f g), m) := by
  have m3 : -(18446744073709551616 : Int) < f.b := by omega
  have m4 : f.b < (18446744073709551616 : Int) := by omega
  have m5 : -(18446744073709551616 : Int) < g.b := by omega
  have m6 : g.b < (18446744073709551616 : Int) := by omega
  unfold m_is_greater gtF
  refine fnD_of (ρ := [some f.d, some g.d]) rfl ?_
  simp [m3, m4, m5, m6]
/-! the loop -/
def bestF (rc : List TB → Fr) : List (List TB) → List TB → List TB
  | [], B => B
  | o :: Os, B => bestF rc Os (if gtF (rc o) (rc B) = true then o else B)
abbrev lpS (R G : List D → M D) : SDen := (sSeq (sSet 5 (dCall R (dAs [(dVar 4)]))) (sIf (dTest (dCall G (dAs [(dVar 5), (dVar 3)]))) (sSeq (sSet 2 (dVar 4)) (sSet 3 (dVar 5))) sNil))
abbrev EB (e0 e1 : Option D) (rc : List TB → Fr) (B : List TB) (e4 e5 : Option D) : DEnv := [e0, e1, some (bD B), some (rc B).d, e4, e5]
theorem best_loop (R G : List D → M D) (rc : List TB → Fr) (e0 e1 : Option D) (n : Nat) (S : SDen) (hS : S = lpS R G) : ∀ (Os : List (List TB)) (B : List TB) (e4 e5 : Option D), (∀ o ∈ Os, R [bD o] n = some ((rc o).d, n)) → (∀ o ∈ B :: Os, ∀ o' ∈ B :: Os, G [(rc o).d, (rc o').d] n = some (.bool (gtF (rc o) (rc o')), n)) →
    ∃ e4' e5', dFor (gNm 4) S (Os.map bD) (EB e0 e1 rc B e4 e5) n = some (.nx (EB e0 e1 rc (bestF rc Os B) e4' e5'), n)
  | [], B, e4, e5, _, _ => ⟨e4, e5, rfl⟩
  | o :: Os, B, e4, e5, hR, hG => by
    have h1 := hR o List.mem_cons_self
    have h2 := hG o (List.mem_cons_of_mem _ List.mem_cons_self) B List.mem_cons_self
    have hin : ∃ e4'', S (EB e0 e1 rc B (some (bD o)) e5) n = some (.nx (EB e0 e1 rc (if gtF (rc o) (rc B) = true then o else B) (some (bD o)) e4''), n) := by
      refine ⟨some (rc o).d, ?_⟩
      rw [hS]
      have t1 : sSet 5 (dCall R (dAs [(dVar 4)])) (EB e0 e1 rc B (some (bD o)) e5) n = some (.nx (EB e0 e1 rc B (some (bD o)) (some (rc o).d)), n) := sSet_v (call1' (f := dVar 4) (x := bD o) rfl h1)
      have t2 : dTest (dCall G (dAs [(dVar 5), (dVar 3)])) (EB e0 e1 rc B (some (bD o)) (some (rc o).d)) n = some (gtF (rc o) (rc B), n) := test_to' (call2 (f := dVar 5) (x := (rc o).d) (g := dVar 3) (y := (rc B).d) rfl rfl h2)
      refine sSeq_to t1 ?_
      cases hb : gtF (rc o) (rc B) with
      | true =>
        rw [hb] at t2
        exact sIf_t t2 rfl
      | false =>
        rw [hb] at t2
        exact sIf_f t2 rfl
    obtain ⟨e5', hin⟩ := hin
    obtain ⟨f4, f5, ih⟩ := best_loop R G rc e0 e1 n S hS Os (if gtF (rc o) (rc B) = true then o else B) (some (bD o)) e5' (fun x hx => hR x (List.mem_cons_of_mem _ hx)) (by
      have hsub : ∀ x ∈ (if gtF (rc o) (rc B) = true then o else B) :: Os, x ∈ B :: o :: Os := by
        intro x hx
        rcases List.mem_cons.mp hx with rfl | hx
        · split
          · exact List.mem_cons_of_mem _ List.mem_cons_self
          · exact List.mem_cons_self
        · exact List.mem_cons_of_mem _ (List.mem_cons_of_mem _ hx)
      exact fun x hx y hy => hG x (hsub x hx) y (hsub y hy))
    refine ⟨f4, f5, ?_⟩
    rw [List.map_cons]
    unfold dFor
    rw [show gNm 4 (bD o) (EB e0 e1 rc B e4 e5) = some (EB e0 e1 rc B (some (bD o)) e5) from rfl]
    dsimp only
    rw [hin]
    dsimp only
    exact ih
/-! sorted -/
def tLe (a b : TB) : Bool := PySem.W.dataLe false id a.d b.d
def tsort (bs : List TB) : List TB := bs.mergeSort tLe
theorem tsort_map (bs : List TB) : (bs.map TB.d).mergeSort (PySem.W.dataLe false id) = (tsort bs).map TB.d :=
  (List.map_mergeSort (f := TB.d) (r := tLe) (s := PySem.W.dataLe false id) fun a _ b _ => rfl).symm
theorem tsort_perm (bs : List TB) : (tsort bs).Perm bs := List.mergeSort_perm bs _
theorem alike_tb (a b : TB) : PySem.W.alike a.d b.d = true := by
  unfold TB.d
  rw [PySem.W.alike]
  rfl
theorem sort_tb {bs : List TB} (hl : bs.length ≤ 1000) : sortOK (bs.map TB.d) = true := by
  have h1 : likeAll (bs.map TB.d) = true := List.all_eq_true.mpr fun d hd => List.all_eq_true.mpr fun d' hd' => by
    obtain ⟨a, _, rfl⟩ := List.mem_map.mp hd
    obtain ⟨b, _, rfl⟩ := List.mem_map.mp hd'
    exact alike_tb a b
  have h2 : (bs.map TB.d).all isTupN = true := List.all_eq_true.mpr fun d hd => by
    obtain ⟨a, _, rfl⟩ := List.mem_map.mp hd
    rfl
  have h3 : (bs.map TB.d).all (fun d => decide (d.depth ≤ 32)) = true := List.all_eq_true.mpr fun d hd => by
    obtain ⟨a, _, rfl⟩ := List.mem_map.mp hd
    refine decide_eq_true ?_
    unfold TB.d
    simp only [PyData.depth, PyData.depthAll]
    omega
  unfold sortOK
  rw [h1, h2, h3, List.length_map, decide_eq_true (show bs.length ≤ LIM by rw [show LIM = 16777216 from rfl]; omega)]
  rfl
theorem sorted_tb {bs : List TB} (hl : bs.length ≤ 1000) : hSortT [.tuple (bs.map TB.d)] = some (.list ((tsort bs).map TB.d)) := by
  show (if sortOK (bs.map TB.d) = true then _ else _) = _
  rw [if_pos (sort_tb hl), tsort_map]
/-! orders -/
def ordT (l : List TB) : List (List TB) := (pms l.length).map fun c => c.1.map fun j => l.getD j ⟨0, 0⟩
theorem pms_perm : ∀ n, n < 6 → ∀ c ∈ pms n, c.1.isPerm (List.range n) = true := by decide +kernel
theorem ordT_prD {l : List TB} (h : l.length ≤ 5) : prD (l.map TB.d) = (ordT l).map bD := by
  unfold prD ordT
  rw [List.map_map, List.length_map]
  refine List.map_congr_left fun c hc => ?_
  have hb := ((pms_facts l.length (by omega)).2.1 c hc).2.2
  show PyData.tuple _ = PyData.tuple _
  rw [List.map_map]
  refine congrArg PyData.tuple (List.map_congr_left fun j hj => ?_)
  show (l.map TB.d).getD j .none = (l.getD j ⟨0, 0⟩).d
  rw [List.getD_eq_getElem?_getD, List.getElem?_map, getD_of (hb j hj)]
  rfl
theorem map_range_getD {α : Type} (l : List α) (a : α) : (List.range l.length).map (fun j => l.getD j a) = l := by
  refine List.ext_getElem (by rw [List.length_map, List.length_range]) fun i h1 h2 => ?_
  rw [List.getElem_map, List.getElem_range, List.getD_eq_getElem?_getD, List.getElem?_eq_getElem h2]
  rfl
theorem ordT_perm {l : List TB} (h : l.length ≤ 5) : ∀ o ∈ ordT l, o.Perm l := by
  intro o ho
  obtain ⟨c, hc, rfl⟩ := List.mem_map.mp ho
  have hp := List.isPerm_iff.mp (pms_perm l.length (by omega) c hc)
  have := hp.map fun j => l.getD j ⟨0, 0⟩
  rwa [map_range_getD] at this
theorem Gd.perm {bs cs : List TB} (g : Gd bs) (h : cs.Perm bs) : Gd cs := ⟨fun b hb => g.ok b ((h.mem_iff).mp hb), by rw [h.length_eq]; exact g.l1, by rw [h.length_eq]; exact g.l5⟩
theorem best_ap (CB R G : List D → M D) (bs : List TB) (L : List TB) (rc : List TB → Fr) (n : Nat) (hcb : CB [bD bs] n = some (.none, n)) (hs : hSortT [bD bs] = some (.list (L.map TB.d))) (hl : L.length ≤ 5) (hR : ∀ o : List TB, o.Perm L → R [bD o] n = some ((rc o).d, n)) (hG : ∀ o o' : List TB, o.Perm L → o'.Perm L → G [(rc o).d, (rc o').d] n = some (.bool (gtF (rc o) (rc o')), n)) :
    fnD 6 (sSeq (sDrop (dCall CB (dAs [(dVar 0)]))) (sSeq (sSet 1 (dUnA hSortT (dAs [(dVar 0)]))) (sSeq (sSet 2 (dUnA hTupleOf (dAs [(dVar 1)]))) (sSeq (sSet 3 (dCall R (dAs [(dVar 2)]))) (sSeq (sFor (iPmD (dVar 1)) (gNm 4) (lpS R G)) (sRet (dUnA hTup (dAs [(dVar 3), (dVar 2)])))))))) [bD bs] n = some (.tuple [(rc (bestF rc (ordT L) L)).d, bD (bestF rc (ordT L) L)], n) := by
  have s0 : sDrop (dCall CB (dAs [(dVar 0)])) [some (bD bs), none, none, none, none, none] n = some (.nx [some (bD bs), none, none, none, none, none], n) := by simp [hcb]
  have s1 : sSet 1 (dUnA hSortT (dAs [(dVar 0)])) [some (bD bs), none, none, none, none, none] n = some (.nx [some (bD bs), some (.list (L.map TB.d)), none, none, none, none], n) := sSet_v (dU1 (f := dVar 0) (x := bD bs) (n' := n) rfl hs)
  have ht : hTupleOf [.list (L.map TB.d)] = some (bD L) := by
    have hlm : (L.map TB.d).length ≤ 16777216 := by rw [List.length_map]; omega
    unfold bD
    simp [hlm]
  have s2 : sSet 2 (dUnA hTupleOf (dAs [(dVar 1)])) [some (bD bs), some (.list (L.map TB.d)), none, none, none, none] n = some (.nx [some (bD bs), some (.list (L.map TB.d)), some (bD L), none, none, none], n) := sSet_v (dU1 (f := dVar 1) (x := .list (L.map TB.d)) (n' := n) rfl ht)
  have s3 : sSet 3 (dCall R (dAs [(dVar 2)])) [some (bD bs), some (.list (L.map TB.d)), some (bD L), none, none, none] n = some (.nx (EB (some (bD bs)) (some (.list (L.map TB.d))) rc L none none), n) := sSet_v (call1' (f := dVar 2) (x := bD L) rfl (hR L (List.Perm.refl _)))
  have hp := ordT_perm hl
  obtain ⟨e4, e5, hloop⟩ := best_loop R G rc (some (bD bs)) (some (.list (L.map TB.d))) n _ rfl (ordT L) L none none (fun o ho => hR o (hp o ho)) (by
    have hp' : ∀ o ∈ L :: ordT L, o.Perm L := fun o ho => by
      rcases List.mem_cons.mp ho with rfl | ho
      · exact List.Perm.refl _
      · exact hp o ho
    exact fun o ho o' ho' => hG o o' (hp' o ho) (hp' o' ho'))
  have hit : iPmD (dVar 1) (EB (some (bD bs)) (some (.list (L.map TB.d))) rc L none none) n = some ((ordT L).map bD, n) := by
    show (if (L.map TB.d).length ≤ 5 then some (prD (L.map TB.d), n) else none) = _
    rw [List.length_map, if_pos hl, ordT_prD hl]
  exact fnD_of (ρ := [some (bD bs), none, none, none, none, none]) rfl (sSeq_to s0 (sSeq_to s1 (sSeq_to s2 (sSeq_to s3 (sSeq_to (sFor_of hit hloop) rfl)))))
def bestM (bs : List TB) : List TB := bestF rch (ordT (tsort bs)) (tsort bs)
theorem best_eq (ns : List Int) {bs : List TB} (g : Gd bs) (n : Nat) : m_best_sequence ns [bD bs] n = some (.tuple [(rch (bestM bs)).d, bD (bestM bs)], n) := by
  have hp := tsort_perm bs
  have h5 := g.l5
  have hg : ∀ o : List TB, o.Perm (tsort bs) → Gd o := fun o ho => g.perm (ho.trans hp)
  exact best_ap (m_check_blocks ns) (m_reach_of ns) (m_is_greater ns) bs (tsort bs) rch n (checkb_eq ns g n) (sorted_tb (by omega)) (by rw [hp.length_eq]; exact h5) (fun o ho => reach_of_eq ns (hg o ho) n) fun o o' ho ho' => greater_eq ns _ _ n (rch_pos (hg o ho)) (rch_pos (hg o' ho'))
end DL
namespace DL
open PySem PySem.Spec PyProof.Rows L2
/-! ### equality of what is told -/
theorem int_eqv (a b : Int) : PyData.eqv (.int a) (.int b) = decide (a = b) := by simp [PyData.eqv]; rfl
theorem tb_eqv (a b : TB) : PyData.eqv a.d b.d = decide (a = b) := by
  have h : (a = b) ↔ (a.w = b.w ∧ a.t = b.t) := by
    constructor
    · rintro rfl; exact ⟨rfl, rfl⟩
    · intro h
      cases a; cases b
      cases h.1; cases h.2
      rfl
  rw [decide_eq_decide.mpr h]
  unfold TB.d
  rw [PyData.eqv, PyData.eqvAll, PyData.eqvAll, PyData.eqvAll, int_eqv, int_eqv, Bool.and_true, Bool.decide_and]
theorem fr_eqv (a b : Fr) : PyData.eqv a.d b.d = decide (a = b) := by
  have h : (a = b) ↔ (a.a = b.a ∧ a.b = b.b) := by
    constructor
    · rintro rfl; exact ⟨rfl, rfl⟩
    · intro h
      cases a; cases b
      cases h.1; cases h.2
      rfl
  rw [decide_eq_decide.mpr h]
  unfold Fr.d
  rw [PyData.eqv, PyData.eqvAll, PyData.eqvAll, PyData.eqvAll, int_eqv, int_eqv, Bool.and_true, Bool.decide_and]
theorem bD_eqvA : ∀ a b : List TB, PyData.eqvAll (a.map TB.d) (b.map TB.d) = decide (a = b)
  | [], [] => rfl
  | [], b :: T => by simp [PyData.eqvAll]
  | a :: S, [] => by simp [PyData.eqvAll]
  | a :: S, b :: T => by
    rw [List.map_cons, List.map_cons]
    unfold PyData.eqvAll
    rw [bD_eqvA S T, tb_eqv]
    by_cases h1 : a = b <;> by_cases h2 : S = T <;> simp [h1, h2]
theorem bD_eqv (a b : List TB) : PyData.eqv (bD a) (bD b) = decide (a = b) := by
  unfold bD
  rw [PyData.eqv, bD_eqvA]
theorem shp_tb (x : TB) : Shp 1 x.d := Shp.tuple fun d hd => by
  rcases List.mem_cons.mp hd with rfl | hd
  · exact Shp.int
  · rcases List.mem_cons.mp hd with rfl | hd
    · exact Shp.int
    · cases hd
theorem shp_fr (x : Fr) : Shp 2 x.d := Shp.tuple fun d hd => by
  rcases List.mem_cons.mp hd with rfl | hd
  · exact Shp.int
  · rcases List.mem_cons.mp hd with rfl | hd
    · exact Shp.int
    · cases hd
theorem shp_bD (S : List TB) : Shp 2 (bD S) := Shp.tuple fun d hd => by
  obtain ⟨x, _, rfl⟩ := List.mem_map.mp hd
  exact shp_tb x
def pairD (f : Fr) (b : List TB) : D := .tuple [f.d, bD b]
theorem shp_pair (f : Fr) (b : List TB) : Shp 3 (pairD f b) := Shp.tuple fun d hd => by
  rcases List.mem_cons.mp hd with rfl | hd
  · exact shp_fr f
  · rcases List.mem_cons.mp hd with rfl | hd
    · exact shp_bD b
    · cases hd
theorem pair_eqv (f : Fr) (b : List TB) : PyData.eqv (pairD f b) (pairD f b) = true := by
  unfold pairD
  rw [PyData.eqv, PyData.eqvAll, PyData.eqvAll, PyData.eqvAll, fr_eqv, bD_eqv, decide_eq_true rfl, decide_eq_true rfl]
  rfl
theorem pair_ne (f : Fr) (b : List TB) : hNeD (pairD f b) (pairD f b) = some (.bool false) := by
  unfold hNeD
  rw [(shp_pair f b).ok (by decide), show noDict (pairD f b) = true from rfl, pair_eqv]
  rfl
theorem pair_eq (f : Fr) (b : List TB) : hEqD (pairD f b) (pairD f b) = some (.bool true) := by
  unfold hEqD
  rw [(shp_pair f b).ok (by decide), show noDict (pairD f b) = true from rfl, pair_eqv]
  rfl
/-! the best of like blocks -/
theorem bestF_same (rc : List TB → Fr) (B : List TB) : ∀ (Os : List (List TB)), (∀ o ∈ Os, o = B) → bestF rc Os B = B
  | [], _ => rfl
  | o :: Os, h => by
    unfold bestF
    rw [h o List.mem_cons_self, ite_self]
    exact bestF_same rc B Os fun x hx => h x (List.mem_cons_of_mem _ hx)
theorem bestM_rep (n : Nat) (hn : n ≤ 5) (b : TB) : bestM (List.replicate n b) = List.replicate n b := by
  have h : tsort (List.replicate n b) = List.replicate n b := List.perm_replicate.mp (tsort_perm _)
  unfold bestM
  rw [h]
  exact bestF_same _ _ _ fun o ho => List.perm_replicate.mp (ordT_perm (by rw [List.length_replicate]; exact hn) o ho)
/-! sums of parts -/
def sumF : List Fr → Fr → Fr
  | [], f => f
  | p :: ps, f => sumF ps ⟨f.a * p.b + p.a * f.b, f.b * p.b⟩
abbrev suS : SDen := (sPar 1 2 (dAs [(dBin hAdd (dBin hMul (dVar 1) (dBin hIx (dVar 3) (dC (.int 1)))) (dBin hMul (dBin hIx (dVar 3) (dC (.int 0))) (dVar 2))), (dBin hMul (dVar 2) (dBin hIx (dVar 3) (dC (.int 1))))]))
theorem sum_turn (e0 : Option D) (f p : Fr) (n : Nat) (ha : 0 ≤ p.a ∧ p.a ≤ 1000) (hb : 0 ≤ p.b ∧ p.b ≤ 1000) : suS [e0, some (.int f.a), some (.int f.b), some p.d] n = some (.nx [e0, some (.int (f.a * p.b + p.a * f.b)), some (.int (f.b * p.b)), some p.d], n) := by
  have m1 : -(18446744073709551616 : Int) < p.a := by omega
  have m2 : p.a < (18446744073709551616 : Int) := by omega
  have m3 : -(18446744073709551616 : Int) < p.b := by omega
  have m4 : p.b < (18446744073709551616 : Int) := by omega
  simp [m1, m2, m3, m4]
theorem sum_loop (e0 : Option D) (n : Nat) : ∀ (ps : List Fr) (f : Fr) (e3 : Option D), (∀ p ∈ ps, (0 ≤ p.a ∧ p.a ≤ 1000) ∧ (0 ≤ p.b ∧ p.b ≤ 1000)) → ∃ e3', dFor (gNm 3) suS (ps.map Fr.d) [e0, some (.int f.a), some (.int f.b), e3] n = some (.nx [e0, some (.int (sumF ps f).a), some (.int (sumF ps f).b), e3'], n)
  | [], f, e3, _ => ⟨e3, rfl⟩
  | p :: ps, f, e3, h => by
    obtain ⟨h1, h2⟩ := h p List.mem_cons_self
    obtain ⟨e3', ih⟩ := sum_loop e0 n ps ⟨f.a * p.b + p.a * f.b, f.b * p.b⟩ (some p.d) fun x hx => h x (List.mem_cons_of_mem _ hx)
    refine ⟨e3', ?_⟩
    rw [List.map_cons]
    unfold dFor
    rw [show gNm 3 p.d [e0, some (.int f.a), some (.int f.b), e3] = some [e0, some (.int f.a), some (.int f.b), some p.d] from rfl]
    dsimp only
    rw [sum_turn e0 f p n h1 h2]
    dsimp only
    exact ih
end DL
namespace DL
open PySem PySem.Spec PyProof.Rows L2
/-! ### the order of sequences; the order of reaches -/
def tbLt (a b : TB) : Bool := decide (a.w < b.w ∨ a.w = b.w ∧ a.t < b.t)
theorem tb_lt (a b : TB) : PySem.W.dataLt a.d b.d = tbLt a b := by
  unfold TB.d tbLt
  rw [PySem.W.dataLt_ii]
theorem TB.ext' {a b : TB} (h1 : a.w = b.w) (h2 : a.t = b.t) : a = b := by
  cases a; cases b
  cases h1; cases h2
  rfl
theorem tb_tri (a b : TB) : a = b ∨ tbLt a b = true ∨ tbLt b a = true := by
  unfold tbLt
  rw [decide_eq_true_eq, decide_eq_true_eq]
  by_cases h : a.w = b.w ∧ a.t = b.t
  · exact .inl (TB.ext' h.1 h.2)
  · exact .inr (by omega)
theorem tb_irr (a : TB) : tbLt a a = false := by unfold tbLt; rw [decide_eq_false_iff_not]; omega
theorem tb_trans {a b c : TB} (h1 : tbLt a b = true) (h2 : tbLt b c = true) : tbLt a c = true := by
  unfold tbLt at *
  rw [decide_eq_true_eq] at *
  omega
theorem tb_asym {a b : TB} (h1 : tbLt a b = true) : tbLt b a = false := by
  unfold tbLt at *
  rw [decide_eq_true_eq] at h1
  rw [decide_eq_false_iff_not]
  omega
def lsLt : List TB → List TB → Bool
  | a :: S, b :: T => if a = b then lsLt S T else tbLt a b
  | _, _ => false
theorem ls_cons (a b : TB) (S T : List TB) : lsLt (a :: S) (b :: T) = if a = b then lsLt S T else tbLt a b := by rw [lsLt]
theorem ls_ltA : ∀ S T : List TB, S.length = T.length → PyProof.Rows.lexLt itemOrd (PySem.W.keyToksAll (S.map TB.d)) (PySem.W.keyToksAll (T.map TB.d)) = lsLt S T
  | [], [], _ => by
    unfold lsLt
    rw [List.map_nil]
    exact lex_irrefl _
  | a :: S, b :: T, h => by
    rw [List.map_cons, List.map_cons, PySem.W.dataLt_cons (alike_tb a b), tb_eqv, tb_lt, ls_ltA S T (by simpa using h)]
    rw [ls_cons]
    by_cases e : a = b
    · rw [if_pos e, if_pos (decide_eq_true e)]
    · rw [if_neg e, if_neg (by rw [decide_eq_true_eq]; exact e)]
theorem ls_lt {S T : List TB} (h : S.length = T.length) : PySem.W.dataLt (bD S) (bD T) = lsLt S T := by
  unfold bD
  rw [PySem.W.dataLt_tuple]
  exact ls_ltA S T h
theorem ls_tri : ∀ {S T : List TB}, S.length = T.length → S = T ∨ lsLt S T = true ∨ lsLt T S = true
  | [], [], _ => .inl rfl
  | a :: S, b :: T, h => by
    unfold lsLt
    by_cases e : a = b
    · subst e
      rw [if_pos rfl, if_pos rfl]
      rcases ls_tri (S := S) (T := T) (by simpa using h) with h | h
      · exact .inl (by rw [h])
      · exact .inr h
    · rw [if_neg e, if_neg fun h => e h.symm]
      rcases tb_tri a b with h | h
      · exact absurd h e
      · exact .inr h
theorem ls_irr : ∀ S : List TB, lsLt S S = false
  | [] => rfl
  | a :: S => by unfold lsLt; rw [if_pos rfl, ls_irr S]
theorem ls_trans : ∀ {S T U : List TB}, lsLt S T = true → lsLt T U = true → lsLt S U = true
  | a :: S, b :: T, c :: U, h1, h2 => by
    unfold lsLt at *
    by_cases e : a = b
    · subst e
      rw [if_pos rfl] at h1
      by_cases e2 : a = c
      · subst e2
        rw [if_pos rfl] at h2 ⊢
        exact ls_trans h1 h2
      · rw [if_neg e2] at h2 ⊢
        exact h2
    · rw [if_neg e] at h1
      by_cases e2 : b = c
      · subst e2
        rw [if_neg e]
        exact h1
      · rw [if_neg e2] at h2
        by_cases e3 : a = c
        · subst e3
          rw [tb_asym h1] at h2
          cases h2
        · rw [if_neg e3]
          exact tb_trans h1 h2
  | [], _, _, h1, _ => by simp [lsLt] at h1
  | _ :: _, [], _, h1, _ => by simp [lsLt] at h1
  | _ :: _, _ :: _, [], _, h2 => by simp [lsLt] at h2
/-! reaches -/
def leF (f g : Fr) : Prop := f.a * g.b ≤ g.a * f.b
theorem gtF_no {f g : Fr} : gtF f g = false ↔ leF f g := by
  unfold gtF leF
  rw [decide_eq_false_iff_not]
  omega
theorem gtF_yes {f g : Fr} : gtF f g = true ↔ ¬ leF f g := by
  unfold gtF leF
  rw [decide_eq_true_eq]
  omega
theorem leF_tot (f g : Fr) : leF f g ∨ leF g f := by unfold leF; omega
theorem leF_refl (f : Fr) : leF f f := by unfold leF; omega
theorem leF_trans {f g h : Fr} (hf : 0 < f.b) (hg : 0 < g.b) (hh : 0 < h.b) (h1 : leF f g) (h2 : leF g h) : leF f h := by
  unfold leF at *
  have a1 := Int.mul_le_mul_of_nonneg_right h1 (Int.le_of_lt hh)
  have a2 := Int.mul_le_mul_of_nonneg_right h2 (Int.le_of_lt hf)
  have e1 : f.a * g.b * h.b = f.a * h.b * g.b := by grind
  have e2 : g.a * f.b * h.b = g.a * h.b * f.b := by grind
  have e3 : h.a * g.b * f.b = h.a * f.b * g.b := by grind
  exact Int.le_of_mul_le_mul_right (show f.a * h.b * g.b ≤ h.a * f.b * g.b by omega) hg
/-- the best of some sequences: none reaches farther, and none that reaches as far is less -/
def Best (rc : List TB → Fr) (Q : List TB → Prop) (B : List TB) : Prop := Q B ∧ ∀ o, Q o → leF (rc o) (rc B) ∧ (leF (rc B) (rc o) → lsLt o B = false)
theorem Best.uniq {rc : List TB → Fr} {Q : List TB → Prop} {B B' : List TB} (hl : ∀ o o', Q o → Q o' → o.length = o'.length) (h : Best rc Q B) (h' : Best rc Q B') : B = B' := by
  obtain ⟨q, hb⟩ := h
  obtain ⟨q', hb'⟩ := h'
  have x1 := hb B' q'
  have x2 := hb' B q
  have y1 := x1.2 x2.1
  have y2 := x2.2 x1.1
  rcases ls_tri (hl B B' q q') with h | h | h
  · exact h
  · rw [h] at y2; cases y2
  · rw [h] at y1; cases y1
/-- where the loop over all orders ends -/
theorem bestF_first (rc : List TB → Fr) : ∀ (Os : List (List TB)) (B : List TB), (∀ o ∈ B :: Os, 0 < (rc o).b) → ∃ pre post, B :: Os = pre ++ bestF rc Os B :: post ∧ (∀ o ∈ pre, ¬ leF (rc (bestF rc Os B)) (rc o)) ∧ ∀ o ∈ post, leF (rc o) (rc (bestF rc Os B))
  | [], B, _ => ⟨[], [], rfl, fun _ h => absurd h List.not_mem_nil, fun _ h => absurd h List.not_mem_nil⟩
  | o :: Os, B, hp => by
    have pB := hp B List.mem_cons_self
    have po := hp o (List.mem_cons_of_mem _ List.mem_cons_self)
    unfold bestF
    by_cases hg : gtF (rc o) (rc B) = true
    · rw [if_pos hg]
      obtain ⟨pre, post, e, h1, h2⟩ := bestF_first rc Os o fun x hx => hp x (List.mem_cons_of_mem _ hx)
      have hgt := gtF_yes.mp hg
      have hM : 0 < (rc (bestF rc Os o)).b := hp _ (List.mem_cons_of_mem _ (by rw [e]; exact List.mem_append_right _ List.mem_cons_self))
      generalize bestF rc Os o = M at e h1 h2 hM ⊢
      have hoM : leF (rc o) (rc M) := by
        match pre, e, h1 with
        | [], e, _ =>
          rw [← (List.cons.inj e).1]
          exact leF_refl _
        | p :: pre, e, h1 =>
          rcases leF_tot (rc o) (rc M) with h | h
          · exact h
          · exact absurd (by rw [← (List.cons.inj e).1]; exact h) (h1 p List.mem_cons_self)
      refine ⟨B :: pre, post, by rw [e]; rfl, fun x hx => ?_, h2⟩
      rcases List.mem_cons.mp hx with rfl | hx
      · exact fun hle => hgt (leF_trans po hM pB hoM hle)
      · exact h1 x hx
    · rw [if_neg hg]
      have hle := gtF_no.mp (Bool.eq_false_iff.mpr hg)
      obtain ⟨pre, post, e, h1, h2⟩ := bestF_first rc Os B fun x hx => hp x (by
        rcases List.mem_cons.mp hx with rfl | hx
        · exact List.mem_cons_self
        · exact List.mem_cons_of_mem _ (List.mem_cons_of_mem _ hx))
      have hM : bestF rc Os B ∈ B :: Os := by rw [e]; exact List.mem_append_right _ List.mem_cons_self
      generalize bestF rc Os B = M at e h1 h2 hM ⊢
      match pre, e, h1 with
      | [], e, _ =>
        obtain ⟨e1, e2⟩ := List.cons.inj e
        refine ⟨[], o :: post, by rw [← e1, ← e2]; rfl, fun _ h => absurd h List.not_mem_nil, fun x hx => ?_⟩
        rcases List.mem_cons.mp hx with rfl | hx
        · rw [← e1]
          exact hle
        · exact h2 x hx
      | p :: pre, e, h1 =>
        obtain ⟨e1, e2⟩ := List.cons.inj e
        have hM : 0 < (rc M).b := hp _ (by
          rcases List.mem_cons.mp hM with rfl | h
          · exact List.mem_cons_self
          · exact List.mem_cons_of_mem _ (List.mem_cons_of_mem _ h))
        refine ⟨B :: o :: pre, post, by rw [e2]; rfl, fun x hx => ?_, h2⟩
        have hB := h1 p List.mem_cons_self
        rw [← e1] at hB
        rcases List.mem_cons.mp hx with rfl | hx
        · exact hB
        · rcases List.mem_cons.mp hx with rfl | hx
          · exact fun h => hB (leF_trans hM po pB h hle)
          · exact h1 x (List.mem_cons_of_mem _ hx)
end DL
namespace DL
open PySem PySem.Spec PyProof.Rows L2
/-! ### all orders of an ascending list: whatever is less stood there before -/
def natLt : List Nat → List Nat → Bool
  | a :: S, b :: T => if a = b then natLt S T else decide (a < b)
  | _, _ => false
theorem nl_cons (a b : Nat) (S T : List Nat) : natLt (a :: S) (b :: T) = if a = b then natLt S T else decide (a < b) := by rw [natLt]
def patOK (P : List (List Nat)) (R : List Nat) : Bool := (List.range P.length).all fun i => (P.map fun c => c.map fun j => R.getD j 0).all fun q => !natLt q ((P.map fun c => c.map fun j => R.getD j 0).getD i []) || ((P.map fun c => c.map fun j => R.getD j 0).take i).contains q
def lsts : Nat → List (List Nat)
  | 0 => [[]]
  | n + 1 => (lsts n).flatMap fun l => (List.range 4).map fun x => x :: l
theorem mem_lsts : ∀ {R : List Nat}, (∀ x ∈ R, x < 4) → R ∈ lsts R.length
  | [], _ => List.mem_singleton.mpr rfl
  | x :: R, h => List.mem_flatMap.mpr ⟨R, mem_lsts fun y hy => h y (List.mem_cons_of_mem _ hy), List.mem_map.mpr ⟨x, List.mem_range.mpr (h x List.mem_cons_self), rfl⟩⟩
def ascB : List Nat → Bool
  | a :: b :: l => decide (a ≤ b) && ascB (b :: l)
  | _ => true
theorem ascB_of : ∀ {R : List Nat}, R.Pairwise (· ≤ ·) → ascB R = true
  | [], _ => rfl
  | [_], _ => rfl
  | a :: b :: l, h => by
    unfold ascB
    rw [Bool.and_eq_true, decide_eq_true_eq]
    exact ⟨(List.pairwise_cons.mp h).1 b List.mem_cons_self, ascB_of (List.pairwise_cons.mp h).2⟩
def patAll : Bool := (List.range 5).all fun n => (lsts n).all fun R => !ascB R || patOK ((pms n).map (·.1)) R
theorem patAll_ok : patAll = true := by decide +kernel
theorem pat_use {R : List Nat} (hl : R.length ≤ 4) (hx : ∀ x ∈ R, x < 4) (ha : R.Pairwise (· ≤ ·)) : patOK ((pms R.length).map (·.1)) R = true := by
  have h := List.all_eq_true.mp (List.all_eq_true.mp patAll_ok R.length (List.mem_range.mpr (by omega))) R (mem_lsts hx)
  rw [ascB_of ha] at h
  exact h
/-! ranks -/
def rk (L : List TB) (x : TB) : Nat := L.countP fun y => tbLt y x
theorem count_lt {α : Type} {p q : α → Bool} : ∀ {L : List α}, (∀ z ∈ L, p z = true → q z = true) → (∃ x ∈ L, q x = true ∧ p x = false) → L.countP p < L.countP q
  | [], _, ⟨_, h, _⟩ => absurd h List.not_mem_nil
  | a :: L, h, ⟨x, hx, hq, hp⟩ => by
    have hm : L.countP p ≤ L.countP q := List.countP_mono_left fun z hz => h z (List.mem_cons_of_mem _ hz)
    rw [List.countP_cons, List.countP_cons]
    rcases List.mem_cons.mp hx with rfl | hx
    · rw [hq, hp]
      simp
      omega
    · have ih := count_lt (L := L) (fun z hz => h z (List.mem_cons_of_mem _ hz)) ⟨x, hx, hq, hp⟩
      have := h a List.mem_cons_self
      cases hpa : p a with
      | true => rw [this hpa]; simp; exact ih
      | false => simp; split <;> omega
theorem rk_lt {L : List TB} {x y : TB} (hx : x ∈ L) (h : tbLt x y = true) : rk L x < rk L y :=
  count_lt (fun z _ hz => tb_trans hz h) ⟨x, hx, h, tb_irr x⟩
theorem rk_bnd {L : List TB} {x : TB} (hx : x ∈ L) : rk L x < L.length := by
  have h : L.countP (fun y => tbLt y x) < L.countP fun _ => true := count_lt (fun _ _ _ => rfl) ⟨x, hx, rfl, tb_irr x⟩
  rwa [List.countP_true] at h
theorem rk_inj {L : List TB} {x y : TB} (hx : x ∈ L) (hy : y ∈ L) (h : rk L x = rk L y) : x = y := by
  rcases tb_tri x y with h1 | h1 | h1
  · exact h1
  · have := rk_lt hx h1; omega
  · have := rk_lt hy h1; omega
theorem rk_ls (L : List TB) : ∀ (S T : List TB), (∀ x ∈ S, x ∈ L) → (∀ x ∈ T, x ∈ L) → S.length = T.length → lsLt S T = natLt (S.map (rk L)) (T.map (rk L))
  | [], [], _, _, _ => by rw [List.map_nil, lsLt, natLt] <;> simp
  | a :: S, b :: T, hS, hT, hl => by
    rw [List.map_cons, List.map_cons, ls_cons, nl_cons, rk_ls L S T (fun x hx => hS x (List.mem_cons_of_mem _ hx)) (fun x hx => hT x (List.mem_cons_of_mem _ hx)) (by simpa using hl)]
    have ha := hS a List.mem_cons_self
    have hb := hT b List.mem_cons_self
    by_cases e : a = b
    · rw [if_pos e, if_pos (by rw [e])]
    · rw [if_neg e, if_neg fun h => e (rk_inj ha hb h)]
      cases h : tbLt a b with
      | true => exact (decide_eq_true (rk_lt ha h)).symm
      | false =>
        rcases tb_tri a b with h1 | h1 | h1
        · exact absurd h1 e
        · rw [h1] at h; cases h
        · have := rk_lt hb h1
          exact (decide_eq_false (by omega)).symm
theorem map_inj_on {α β : Type} {f : α → β} {L : List α} (hf : ∀ x ∈ L, ∀ y ∈ L, f x = f y → x = y) : ∀ (S T : List α), (∀ x ∈ S, x ∈ L) → (∀ x ∈ T, x ∈ L) → S.map f = T.map f → S = T
  | [], [], _, _, _ => rfl
  | [], _ :: _, _, _, h => by cases h
  | _ :: _, [], _, _, h => by cases h
  | a :: S, b :: T, hS, hT, h => by
    rw [List.map_cons, List.map_cons, List.cons.injEq] at h
    rw [hf a (hS a List.mem_cons_self) b (hT b List.mem_cons_self) h.1, map_inj_on hf S T (fun x hx => hS x (List.mem_cons_of_mem _ hx)) (fun x hx => hT x (List.mem_cons_of_mem _ hx)) h.2]
theorem ord_pat {L : List TB} (hl : L.length ≤ 4) (ha : L.Pairwise fun a b => tbLt b a = false) {i : Nat} (hi : i < (ordT L).length) {q : List TB} (hq : q ∈ ordT L) (hlt : lsLt q (ordT L)[i] = true) : ∃ k, k < i ∧ (ordT L)[k]? = some q := by
  have hmem : ∀ o ∈ ordT L, ∀ x ∈ o, x ∈ L := fun o ho x hx => ((ordT_perm (by omega) o ho).mem_iff).mp hx
  have hlen : ∀ o ∈ ordT L, o.length = L.length := fun o ho => (ordT_perm (by omega) o ho).length_eq
  have hR : (L.map (rk L)).Pairwise (· ≤ ·) := by
    rw [List.pairwise_map]
    refine List.Pairwise.imp_of_mem (fun {a b} ma mb h => ?_) ha
    rcases tb_tri a b with h1 | h1 | h1
    · rw [h1]; exact Nat.le_refl _
    · exact Nat.le_of_lt (rk_lt ma h1)
    · rw [h1] at h; cases h
  have hp := pat_use (R := L.map (rk L)) (by rw [List.length_map]; exact hl) (fun x hx => by
    obtain ⟨y, hy, rfl⟩ := List.mem_map.mp hx
    have := rk_bnd hy
    omega) hR
  rw [List.length_map] at hp
  have hQ : (((pms L.length).map (·.1)).map fun c => c.map fun j => (L.map (rk L)).getD j 0) = (ordT L).map fun o => o.map (rk L) := by
    unfold ordT
    rw [List.map_map, List.map_map]
    refine List.map_congr_left fun c hc => ?_
    have hb := ((pms_facts L.length (by omega)).2.1 c hc).2.2
    show c.1.map _ = (c.1.map _).map _
    rw [List.map_map]
    refine List.map_congr_left fun j hj => ?_
    show (L.map (rk L)).getD j 0 = rk L (L.getD j ⟨0, 0⟩)
    rw [List.getD_eq_getElem?_getD, List.getElem?_map, getD_of (hb j hj)]
    rfl
  unfold patOK at hp
  rw [hQ] at hp
  have hil : i < ((pms L.length).map (·.1)).length := by
    unfold ordT at hi
    rw [List.length_map] at hi ⊢
    exact hi
  have h := List.all_eq_true.mp (List.all_eq_true.mp hp i (List.mem_range.mpr hil)) (q.map (rk L)) (List.mem_map.mpr ⟨q, hq, rfl⟩)
  have hgi : ((ordT L).map fun o => o.map (rk L)).getD i [] = (ordT L)[i].map (rk L) := by
    rw [List.getD_eq_getElem?_getD, List.getElem?_map, List.getElem?_eq_getElem hi]
    rfl
  have hmi : (ordT L)[i] ∈ ordT L := List.getElem_mem hi
  rw [hgi, ← rk_ls L q _ (hmem q hq) (hmem _ hmi) (by rw [hlen q hq, hlen _ hmi]), hlt, Bool.not_true, Bool.false_or, List.contains_iff_mem] at h
  rw [← List.map_take] at h
  obtain ⟨o, ho, e⟩ := List.mem_map.mp h
  obtain ⟨k, hk⟩ := List.getElem?_of_mem ho
  have ho' : o ∈ ordT L := List.mem_of_mem_take ho
  have e' : o = q := map_inj_on (fun x hx y hy h => rk_inj hx hy h) o q (hmem o ho') (hmem q hq) e
  subst e'
  have hk2 := (List.getElem?_eq_some_iff.mp hk).1
  rw [List.length_take] at hk2
  refine ⟨k, by omega, ?_⟩
  rwa [List.getElem?_take_of_lt (by omega)] at hk
end DL
namespace DL
open PySem PySem.Spec PyProof.Rows L2
/-! ### the best sequence is the best of all orders -/
theorem tLe_eq (a b : TB) : tLe a b = !tbLt b a := by
  rw [← tb_lt]
  rfl
theorem tsort_asc (bs : List TB) : (tsort bs).Pairwise fun a b => tbLt b a = false := by
  refine (List.pairwise_mergeSort (le := tLe) (fun a b c h1 h2 => ?_) (fun a b => ?_) bs).imp fun {a b} h => ?_
  · rw [tLe_eq, Bool.not_eq_true'] at *
    rcases tb_tri a b with rfl | h | h
    · exact h2
    · rcases tb_tri b c with rfl | h' | h'
      · exact h1
      · exact tb_asym (tb_trans h h')
      · rw [h'] at h2; cases h2
    · rw [h] at h1; cases h1
  · rw [tLe_eq, tLe_eq]
    rcases tb_tri a b with rfl | h | h
    · rw [tb_irr]; rfl
    · rw [tb_asym h]; rfl
    · rw [tb_asym h]; simp
  · rwa [tLe_eq, Bool.not_eq_true'] at h
theorem perm_pull {α β : Type} {f : α → β} : ∀ {l m : List β}, l.Perm m → ∀ r : List α, r.map f = m → ∃ c : List α, c.Perm r ∧ c.map f = l := by
  intro l m h
  induction h with
  | nil =>
    intro r hr
    exact ⟨r, List.Perm.refl _, hr⟩
  | @cons x l1 l2 h ih =>
    intro r hr
    match r, hr with
    | a :: r, hr =>
      rw [List.map_cons, List.cons.injEq] at hr
      obtain ⟨c, c1, c2⟩ := ih r hr.2
      exact ⟨a :: c, c1.cons a, by rw [List.map_cons, hr.1, c2]⟩
  | swap x y l =>
    intro r hr
    match r, hr with
    | a :: b :: r, hr =>
      rw [List.map_cons, List.map_cons, List.cons.injEq, List.cons.injEq] at hr
      exact ⟨b :: a :: r, .swap a b r, by rw [List.map_cons, List.map_cons, hr.1, hr.2.1, hr.2.2]⟩
  | trans h1 h2 ih1 ih2 =>
    intro r hr
    obtain ⟨c, c1, c2⟩ := ih2 r hr
    obtain ⟨d, d1, d2⟩ := ih1 c c2
    exact ⟨d, d1.trans c1, d2⟩
def permAll : Bool := (List.range 5).all fun n => (lsts n).all fun l => !(l.isPerm (List.range n)) || (((pms n).map (·.1)).contains l && (ordsN n n).contains l)
theorem permAll_ok : permAll = true := by decide +kernel
theorem ordsN_perm : ∀ n, n < 5 → ∀ c ∈ ordsN n n, c.isPerm (List.range n) = true := by decide +kernel
theorem perm_use {n : Nat} (hn : n ≤ 4) {c : List Nat} (h : c.Perm (List.range n)) : c ∈ (pms n).map (·.1) ∧ c ∈ ordsN n n := by
  have hl : c.length = n := by rw [h.length_eq, List.length_range]
  have hm : c ∈ lsts n := by
    rw [← hl]
    refine mem_lsts fun x hx => ?_
    have := List.mem_range.mp ((h.mem_iff).mp hx)
    omega
  have hc := List.all_eq_true.mp (List.all_eq_true.mp permAll_ok n (List.mem_range.mpr (by omega))) c hm
  rw [List.isPerm_iff.mpr h, Bool.not_true, Bool.false_or, Bool.and_eq_true, List.contains_iff_mem, List.contains_iff_mem] at hc
  exact hc
theorem mem_ordT {L : List TB} (hl : L.length ≤ 4) {o : List TB} (h : o.Perm L) : o ∈ ordT L := by
  obtain ⟨c, c1, c2⟩ := perm_pull (f := fun j => L.getD j ⟨0, 0⟩) h (List.range L.length) (map_range_getD L _)
  obtain ⟨p, p1, p2⟩ := List.mem_map.mp (perm_use hl c1).1
  exact List.mem_map.mpr ⟨p, p1, by rw [p2]; exact c2⟩
def ordL (l : List TB) : List (List TB) := (ordsN l.length l.length).map fun c => c.map fun j => l.getD j ⟨0, 0⟩
theorem mem_ordL {l : List TB} (hl : l.length ≤ 4) {o : List TB} : o ∈ ordL l ↔ o.Perm l := by
  constructor
  · intro h
    obtain ⟨c, hc, rfl⟩ := List.mem_map.mp h
    have := (List.isPerm_iff.mp (ordsN_perm l.length (by omega) c hc)).map fun j => l.getD j ⟨0, 0⟩
    rwa [map_range_getD] at this
  · intro h
    obtain ⟨c, c1, c2⟩ := perm_pull (f := fun j => l.getD j ⟨0, 0⟩) h (List.range l.length) (map_range_getD l _)
    exact List.mem_map.mpr ⟨c, (perm_use hl c1).2, c2⟩
theorem ordT_zero {L : List TB} (hl : L.length ≤ 5) : (ordT L)[0]? = some L := by
  unfold ordT
  rw [List.getElem?_map, (pms_facts L.length (by omega)).1]
  show some ((List.range L.length).map _) = _
  rw [map_range_getD]
theorem bestM_best {bs : List TB} (g : Gd bs) (h4 : bs.length ≤ 4) : Best rch (fun o => o.Perm bs) (bestM bs) := by
  have hs := tsort_perm bs
  have hL4 : (tsort bs).length ≤ 4 := by rw [hs.length_eq]; exact h4
  have hasc := tsort_asc bs
  unfold bestM
  generalize tsort bs = L at hs hL4 hasc
  have hperm : ∀ o ∈ L :: ordT L, o.Perm bs := fun o ho => by
    rcases List.mem_cons.mp ho with rfl | ho
    · exact hs
    · exact (ordT_perm (by omega) o ho).trans hs
  obtain ⟨pre, post, e, h1, h2⟩ := bestF_first rch (ordT L) L fun o ho => (rch_pos (g.perm (hperm o ho))).1
  generalize bestF rch (ordT L) L = M at e h1 h2
  refine ⟨hperm M (by rw [e]; exact List.mem_append_right _ List.mem_cons_self), fun o ho => ?_⟩
  have hoT : o ∈ ordT L := mem_ordT hL4 (ho.trans hs.symm)
  constructor
  · have hm : o ∈ pre ++ M :: post := by rw [← e]; exact List.mem_cons_of_mem _ hoT
    rcases List.mem_append.mp hm with hm | hm
    · rcases leF_tot (rch o) (rch M) with h | h
      · exact h
      · exact absurd h (h1 o hm)
    · rcases List.mem_cons.mp hm with rfl | hm
      · exact leF_refl _
      · exact h2 o hm
  · intro hle
    cases hlt : lsLt o M with
    | false => rfl
    | true =>
      exfalso
      match pre, e, h1 with
      | [], e, _ =>
        have e1 := (List.cons.inj e).1
        have h0 := ordT_zero (L := L) (by omega)
        obtain ⟨hi, h0⟩ := List.getElem?_eq_some_iff.mp h0
        obtain ⟨k, hk, _⟩ := ord_pat hL4 hasc hi hoT (by rw [h0, e1]; exact hlt)
        omega
      | p :: pre, e, h1 =>
        have e2 : ordT L = pre ++ M :: post := (List.cons.inj e).2
        have hi : pre.length < (ordT L).length := by rw [e2, List.length_append, List.length_cons]; omega
        have hM : (ordT L)[pre.length] = M := by
          have : (ordT L)[pre.length]? = some M := by rw [e2, List.getElem?_append_right (Nat.le_refl _), Nat.sub_self]; rfl
          exact (List.getElem?_eq_some_iff.mp this).2
        obtain ⟨k, hk, hk2⟩ := ord_pat hL4 hasc hi hoT (by rw [hM]; exact hlt)
        have hin : o ∈ pre := by
          rw [e2, List.getElem?_append_left hk] at hk2
          exact List.mem_of_getElem? hk2
        exact h1 o (List.mem_cons_of_mem _ hin) hle
end DL
namespace DL
open PySem PySem.Spec PyProof.Rows L2
/-! ### law k25: the loop over all orders -/
def smallB : Bool := (List.range 5).all fun N => (List.range (N + 1)).all fun j => decide ((ordsN N j).length ≤ 900)
theorem small_ok : smallB = true := by decide +kernel
theorem ords_small {N : Nat} (hN : N ≤ 4) : ∀ j, j ≤ N → (ordsN N j).length ≤ 900 := fun j hj =>
  of_decide_eq_true (List.all_eq_true.mp (List.all_eq_true.mp small_ok N (List.mem_range.mpr (by omega))) j (List.mem_range.mpr (by omega)))
theorem law_orders_eq (ns : List Int) {N : Nat} (hN : N ≤ 4) (n : Nat) : m_law_orders ns [.int (N : Nat)] n = some (.list ((ordsN N N).map ordD), n) := ords_abs (N := N) (by omega) (ords_small hN) n
def sameF (f g : Fr) : Bool := decide (f.a * g.b = g.a * f.b)
def updB (B o : List TB) : List TB := if (gtF (rch o) (rch B) || (sameF (rch o) (rch B) && lsLt o B)) = true then o else B
theorem upd_best {Q : List TB → Prop} {B o : List TB} (hp : ∀ x, Q x → 0 < (rch x).b) (ho : 0 < (rch o).b) (h : Best rch Q B) : Best rch (fun x => Q x ∨ x = o) (updB B o) := by
  obtain ⟨hq, hb⟩ := h
  have pB := hp B hq
  unfold updB
  cases g : gtF (rch o) (rch B) with
  | true =>
    rw [Bool.true_or, if_pos rfl]
    have hn := gtF_yes.mp g
    have hBo : leF (rch B) (rch o) := by
      rcases leF_tot (rch o) (rch B) with h | h
      · exact absurd h hn
      · exact h
    refine ⟨.inr rfl, fun x hx => ?_⟩
    rcases hx with hx | rfl
    · refine ⟨leF_trans (hp x hx) pB ho (hb x hx).1 hBo, fun hle => absurd (leF_trans ho (hp x hx) pB hle (hb x hx).1) hn⟩
    · exact ⟨leF_refl _, fun _ => ls_irr _⟩
  | false =>
    have hoB := gtF_no.mp g
    rw [Bool.false_or]
    cases s : (sameF (rch o) (rch B) && lsLt o B) with
    | true =>
      rw [if_pos rfl]
      rw [Bool.and_eq_true] at s
      have hBo : leF (rch B) (rch o) := by
        have := of_decide_eq_true s.1
        unfold leF
        omega
      refine ⟨.inr rfl, fun x hx => ?_⟩
      rcases hx with hx | rfl
      · refine ⟨leF_trans (hp x hx) pB ho (hb x hx).1 hBo, fun hle => ?_⟩
        have h1 := (hb x hx).2 (leF_trans pB ho (hp x hx) hBo hle)
        cases h2 : lsLt x o with
        | false => rfl
        | true =>
          rw [ls_trans h2 s.2] at h1
          cases h1
      · exact ⟨leF_refl _, fun _ => ls_irr _⟩
    | false =>
      rw [if_neg (by decide)]
      refine ⟨.inl hq, fun x hx => ?_⟩
      rcases hx with hx | rfl
      · exact hb x hx
      · refine ⟨hoB, fun hle => ?_⟩
        have hs : sameF (rch x) (rch B) = true := by
          unfold leF at hoB hle
          exact decide_eq_true (by omega)
        rw [hs, Bool.true_and] at s
        exact s
def foldB : List (List TB) → List TB → List TB
  | [], B => B
  | o :: Os, B => foldB Os (updB B o)
theorem fold_best : ∀ (Os : List (List TB)) (Q : List TB → Prop) (B : List TB), (∀ x, Q x → 0 < (rch x).b) → (∀ o ∈ Os, 0 < (rch o).b) → Best rch Q B → Best rch (fun x => Q x ∨ x ∈ Os) (foldB Os B)
  | [], Q, B, _, _, h => by
    unfold foldB
    refine ⟨.inl h.1, fun o ho => h.2 o ?_⟩
    rcases ho with ho | ho
    · exact ho
    · exact absurd ho List.not_mem_nil
  | o :: Os, Q, B, hp, hpo, h => by
    unfold foldB
    have h1 := fold_best Os (fun x => Q x ∨ x = o) (updB B o) (fun x hx => by
      rcases hx with hx | rfl
      · exact hp x hx
      · exact hpo x List.mem_cons_self) (fun x hx => hpo x (List.mem_cons_of_mem _ hx)) (upd_best hp (hpo o List.mem_cons_self) h)
    have e : ∀ x, ((Q x ∨ x = o) ∨ x ∈ Os) ↔ (Q x ∨ x ∈ o :: Os) := fun x => by
      rw [List.mem_cons, or_assoc]
    exact ⟨(e _).mp h1.1, fun x hx => h1.2 x ((e x).mpr hx)⟩
theorem one_best (o : List TB) : Best rch (fun x => x = o) o := ⟨rfl, fun x hx => by
  subst hx
  exact ⟨leF_refl _, fun _ => ls_irr _⟩⟩
/-! a turn -/
abbrev E25 (bs : List TB) (e3 e4 e5 e6 e7 e8 e9 e10 e11 : Option D) : DEnv := [some mkSc, some mkSt, some (bD bs), e3, e4, e5, e6, e7, e8, e9, e10, e11]
abbrev c7 : SDen := (sSet 7 (dUnA hTupleOf (dAs [(dLc (iT (dVar 6)) [8] (gNm 8) dYes (dBin hIx (dVar 2) (dVar 8)))])))
abbrev c9 (RE : List D → M D) : SDen := (sSet 9 (dCall RE (dAs [(dVar 7)])))
abbrev lhsE : DEnv → M D := (dBin hMul (dBin hIx (dVar 9) (dC (.int 0))) (dBin hIx (dVar 4) (dC (.int 1))))
abbrev rhsE : DEnv → M D := (dBin hMul (dBin hIx (dVar 4) (dC (.int 0))) (dBin hIx (dVar 9) (dC (.int 1))))
abbrev c10 : SDen := (sSet 10 (dOrV (dBin hIsB (dVar 4) (dC .none)) (dBin hGtD lhsE rhsE)))
abbrev c11 : SDen := (sSet 11 (dAndV (dBin hIsNotB (dVar 4) (dC .none)) (dBin hEqD lhsE rhsE)))
abbrev c12 : SDen := (sIf (dOr (dTest (dVar 10)) (dAnd (dTest (dVar 11)) (dTest (dBin hLtD (dVar 7) (dVar 5))))) (sPar 4 5 (dAs [(dVar 9), (dVar 7)])) sNil)
abbrev body25 (RE : List D → M D) : SDen := (sSeq c7 (sSeq (c9 RE) (sSeq c10 (sSeq c11 c12))))
def seqO (bs : List TB) (c : List Nat) : List TB := c.map fun j => bs.getD j ⟨0, 0⟩
theorem t7 (bs : List TB) (c : List Nat) (hc : ∀ j ∈ c, j < bs.length) (hl : c.length ≤ 1000) (e3 e4 e5 e7 e8 e9 e10 e11 : Option D) (n : Nat) : c7 (E25 bs e3 e4 e5 (some (ordD c)) e7 e8 e9 e10 e11) n = some (.nx (E25 bs e3 e4 e5 (some (ordD c)) (some (bD (seqO bs c))) e8 e9 e10 e11), n) := by
  have hcomp : dComp (gNm 8) dYes (dBin hIx (dVar 2) (dVar 8)) (E25 bs e3 e4 e5 (some (ordD c)) e7 none e9 e10 e11) (natI c) n = some ((seqO bs c).map TB.d, n) := by
    rw [dComp_map (p := fun d => (bs.getD (iOf d) ⟨0, 0⟩).d)]
    · unfold natI seqO
      rw [List.map_map, List.map_map]
      refine congrArg (fun z => some (z, n)) (List.map_congr_left fun j _ => ?_)
      show (bs.getD (iOf (.int (j : Nat))) ⟨0, 0⟩).d = (bs.getD j ⟨0, 0⟩).d
      rw [show iOf (.int (j : Nat)) = j from Int.toNat_natCast j]
    · intro d hd m
      obtain ⟨j, hj, rfl⟩ := List.mem_map.mp hd
      rw [show iOf (.int (j : Nat)) = j from Int.toNat_natCast j]
      have hx : hIx (bD bs) (.int (j : Nat)) = some (bs.getD j ⟨0, 0⟩).d := atI_nat (l := bs.map TB.d) (i := j) (by rw [List.getElem?_map, getD_of (hc j hj)]; rfl)
      exact ⟨E25 bs e3 e4 e5 (some (ordD c)) e7 (some (.int (j : Nat))) e9 e10 e11, rfl, dBin_of (f := dVar 2) (x := bD bs) (n1 := m) rfl (g := dVar 8) (y := .int (j : Nat)) (n2 := m) rfl hx, rfl⟩
  have hL := dLc_w (it := iT (dVar 6)) (vs := [8]) (ρ := E25 bs e3 e4 e5 (some (ordD c)) e7 e8 e9 e10 e11) (ds := natI c) (n1 := n) rfl (by rw [natI_len]; omega) hcomp
  have ht : hTupleOf [.list ((seqO bs c).map TB.d)] = some (bD (seqO bs c)) := by
    have hlm : ((seqO bs c).map TB.d).length ≤ 16777216 := by unfold seqO; rw [List.length_map, List.length_map]; omega
    unfold bD
    simp [hlm]
  exact sSet_v (dU1 hL ht)
theorem lt_ls {o B : List TB} (h : o.length = B.length) : hLtD (bD o) (bD B) = some (.bool (lsLt o B)) := by
  have hal : ∀ S T : List TB, S.length = T.length → PySem.W.alikeAll (S.map TB.d) (T.map TB.d) = true := by
    intro S
    induction S with
    | nil => intro T _; rw [List.map_nil, PySem.W.alikeAll]
    | cons a S ih =>
      intro T hT
      match T, hT with
      | b :: T, hT =>
        rw [List.map_cons, List.map_cons, PySem.W.alikeAll, alike_tb, ih T (by simpa using hT)]
        rfl
  have ha : PySem.W.alike (bD o) (bD B) = true := by
    unfold bD
    rw [PySem.W.alike]
    exact hal o B h
  have hok : dCmpOk (bD o) (bD B) = true := by
    unfold dCmpOk
    rw [ha, (shp_bD o).ok (by decide), (shp_bD B).ok (by decide)]
    rfl
  unfold hLtD
  rw [if_pos hok, ls_lt h]
theorem gt_int (i j : Int) : hGtD (.int i) (.int j) = some (.bool (decide (j < i))) := by
  have hok : dCmpOk (.int i) (.int j) = true := by
    unfold dCmpOk
    rw [PySem.W.alike]
    rfl
  unfold hGtD
  rw [if_pos hok, PySem.W.dataLt_int]
theorem turn0 (RE : List D → M D) (bs : List TB) (c : List Nat) (hc : ∀ j ∈ c, j < bs.length) (hl : c.length ≤ 1000) (e3 e7 e8 e9 e10 e11 : Option D) (n : Nat) (F : Fr) (hR : RE [bD (seqO bs c)] n = some (F.d, n)) :
    ∃ f7 f9 f10 f11, body25 RE (E25 bs e3 (some .none) (some .none) (some (ordD c)) e7 e8 e9 e10 e11) n = some (.nx (E25 bs e3 (some F.d) (some (bD (seqO bs c))) (some (ordD c)) f7 e8 f9 f10 f11), n) := by
  have s7 := t7 bs c hc hl e3 (some .none) (some .none) e7 e8 e9 e10 e11 n
  have s9 : c9 RE (E25 bs e3 (some .none) (some .none) (some (ordD c)) (some (bD (seqO bs c))) e8 e9 e10 e11) n = some (.nx (E25 bs e3 (some .none) (some .none) (some (ordD c)) (some (bD (seqO bs c))) e8 (some F.d) e10 e11), n) := sSet_v (call1' (f := dVar 7) (x := bD (seqO bs c)) rfl hR)
  refine ⟨some (bD (seqO bs c)), some F.d, some (.bool true), some (.bool false), sSeq_to s7 (sSeq_to s9 (sSeq_to (ρ1 := E25 bs e3 (some .none) (some .none) (some (ordD c)) (some (bD (seqO bs c))) e8 (some F.d) (some (.bool true)) e11) (n1 := n) (sSet_v rfl) (sSeq_to (ρ1 := E25 bs e3 (some .none) (some .none) (some (ordD c)) (some (bD (seqO bs c))) e8 (some F.d) (some (.bool true)) (some (.bool false))) (n1 := n) (sSet_v rfl) (sIf_t (orT (test_to' rfl)) rfl))))⟩
theorem dOrV_f {f g : DEnv → M D} {ρ : DEnv} {n n' : Nat} {r : Option (D × Nat)} (h : f ρ n = some (.bool false, n')) (h2 : g ρ n' = r) : dOrV f g ρ n = r := by
  unfold dOrV
  rw [h]
  exact h2
theorem dAndV_t {f g : DEnv → M D} {ρ : DEnv} {n n' : Nat} {r : Option (D × Nat)} (h : f ρ n = some (.bool true, n')) (h2 : g ρ n' = r) : dAndV f g ρ n = r := by
  unfold dAndV
  rw [h]
  exact h2
theorem turn1 (RE : List D → M D) (bs : List TB) (c : List Nat) (hc : ∀ j ∈ c, j < bs.length) (hl : c.length ≤ 1000) (e3 e7 e8 e9 e10 e11 : Option D) (n : Nat) (B : List TB) (hlen : (seqO bs c).length = B.length) (pB : 0 < (rch B).b ∧ (rch B).b ≤ 1000000000000) (pF : 0 < (rch (seqO bs c)).b ∧ (rch (seqO bs c)).b ≤ 1000000000000) (hR : RE [bD (seqO bs c)] n = some ((rch (seqO bs c)).d, n)) :
    ∃ f7 f9 f10 f11, body25 RE (E25 bs e3 (some (rch B).d) (some (bD B)) (some (ordD c)) e7 e8 e9 e10 e11) n = some (.nx (E25 bs e3 (some (rch (updB B (seqO bs c))).d) (some (bD (updB B (seqO bs c)))) (some (ordD c)) f7 e8 f9 f10 f11), n) := by
  have s7 := t7 bs c hc hl e3 (some (rch B).d) (some (bD B)) e7 e8 e9 e10 e11 n
  generalize seqO bs c = o at *
  have s9 : c9 RE (E25 bs e3 (some (rch B).d) (some (bD B)) (some (ordD c)) (some (bD o)) e8 e9 e10 e11) n = some (.nx (E25 bs e3 (some (rch B).d) (some (bD B)) (some (ordD c)) (some (bD o)) e8 (some (rch o).d) e10 e11), n) := sSet_v (call1' (f := dVar 7) (x := bD o) rfl hR)
  have hL : ∀ e10 e11 : Option D, lhsE (E25 bs e3 (some (rch B).d) (some (bD B)) (some (ordD c)) (some (bD o)) e8 (some (rch o).d) e10 e11) n = some (.int ((rch o).a * (rch B).b), n) := fun e10 e11 =>
    dBin_of (dBin_of (f := dVar 9) (x := (rch o).d) (n1 := n) rfl (g := dC (.int 0)) (y := .int 0) (n2 := n) rfl (Fr.ix0 _)) (dBin_of (f := dVar 4) (x := (rch B).d) (n1 := n) rfl (g := dC (.int 1)) (y := .int 1) (n2 := n) rfl (Fr.ix1 _)) (by rw [hMul_i, if_pos (.inl (.inr (by omega)))])
  have hRh : ∀ e10 e11 : Option D, rhsE (E25 bs e3 (some (rch B).d) (some (bD B)) (some (ordD c)) (some (bD o)) e8 (some (rch o).d) e10 e11) n = some (.int ((rch B).a * (rch o).b), n) := fun e10 e11 =>
    dBin_of (dBin_of (f := dVar 4) (x := (rch B).d) (n1 := n) rfl (g := dC (.int 0)) (y := .int 0) (n2 := n) rfl (Fr.ix0 _)) (dBin_of (f := dVar 9) (x := (rch o).d) (n1 := n) rfl (g := dC (.int 1)) (y := .int 1) (n2 := n) rfl (Fr.ix1 _)) (by rw [hMul_i, if_pos (.inl (.inr (by omega)))])
  have s10 : c10 (E25 bs e3 (some (rch B).d) (some (bD B)) (some (ordD c)) (some (bD o)) e8 (some (rch o).d) e10 e11) n = some (.nx (E25 bs e3 (some (rch B).d) (some (bD B)) (some (ordD c)) (some (bD o)) e8 (some (rch o).d) (some (.bool (gtF (rch o) (rch B)))) e11), n) := by
    refine sSet_v (dOrV_f (dBin_of (f := dVar 4) (x := (rch B).d) (n1 := n) rfl (g := dC .none) (y := .none) (n2 := n) rfl rfl) ?_)
    exact dBin_of (hL e10 e11) (hRh e10 e11) (gt_int _ _)
  have s11 : c11 (E25 bs e3 (some (rch B).d) (some (bD B)) (some (ordD c)) (some (bD o)) e8 (some (rch o).d) (some (.bool (gtF (rch o) (rch B)))) e11) n = some (.nx (E25 bs e3 (some (rch B).d) (some (bD B)) (some (ordD c)) (some (bD o)) e8 (some (rch o).d) (some (.bool (gtF (rch o) (rch B)))) (some (.bool (sameF (rch o) (rch B))))), n) := by
    refine sSet_v (dAndV_t (dBin_of (f := dVar 4) (x := (rch B).d) (n1 := n) rfl (g := dC .none) (y := .none) (n2 := n) rfl rfl) ?_)
    exact dBin_of (hL _ e11) (hRh _ e11) (eq_int1 _ _)
  have hlt : dTest (dBin hLtD (dVar 7) (dVar 5)) (E25 bs e3 (some (rch B).d) (some (bD B)) (some (ordD c)) (some (bD o)) e8 (some (rch o).d) (some (.bool (gtF (rch o) (rch B)))) (some (.bool (sameF (rch o) (rch B))))) n = some (lsLt o B, n) :=
    test_to' (dBin_of (f := dVar 7) (x := bD o) (n1 := n) rfl (g := dVar 5) (y := bD B) (n2 := n) rfl (lt_ls hlen))
  have hc : (dOr (dTest (dVar 10)) (dAnd (dTest (dVar 11)) (dTest (dBin hLtD (dVar 7) (dVar 5))))) (E25 bs e3 (some (rch B).d) (some (bD B)) (some (ordD c)) (some (bD o)) e8 (some (rch o).d) (some (.bool (gtF (rch o) (rch B)))) (some (.bool (sameF (rch o) (rch B))))) n = some (gtF (rch o) (rch B) || (sameF (rch o) (rch B) && lsLt o B), n) := by
    cases hg : gtF (rch o) (rch B) with
    | true => exact orT (test_to' rfl)
    | false =>
      rw [hg] at hlt
      refine orF (test_to' rfl) ?_
      cases hs : sameF (rch o) (rch B) with
      | true =>
        rw [hs] at hlt
        exact andT (test_to' rfl) hlt
      | false => exact andF (test_to' rfl)
  refine ⟨some (bD o), some (rch o).d, some (.bool (gtF (rch o) (rch B))), some (.bool (sameF (rch o) (rch B))), sSeq_to s7 (sSeq_to s9 (sSeq_to s10 (sSeq_to s11 ?_)))⟩
  unfold updB
  cases hu : (gtF (rch o) (rch B) || (sameF (rch o) (rch B) && lsLt o B)) with
  | true =>
    rw [hu] at hc
    rw [if_pos rfl]
    exact sIf_t hc rfl
  | false =>
    rw [hu] at hc
    rw [if_neg (by decide)]
    exact sIf_f hc rfl
end DL
namespace DL
open PySem PySem.Spec PyProof.Rows L2
/-! ### law k25 is true -/
theorem loop25 (RE : List D → M D) (bs : List TB) (g : Gd bs) (n : Nat) (S : SDen) (hS : S = body25 RE) (hR : ∀ o : List TB, o.Perm bs → RE [bD o] n = some ((rch o).d, n)) : ∀ (cs : List (List Nat)) (B : List TB) (e3 e6 e7 e8 e9 e10 e11 : Option D), B.Perm bs → (∀ c ∈ cs, c.Perm (List.range bs.length)) →
    ∃ f6 f7 f8 f9 f10 f11, dFor (gNm 6) S (cs.map ordD) (E25 bs e3 (some (rch B).d) (some (bD B)) e6 e7 e8 e9 e10 e11) n = some (.nx (E25 bs e3 (some (rch (foldB (cs.map (seqO bs)) B)).d) (some (bD (foldB (cs.map (seqO bs)) B))) f6 f7 f8 f9 f10 f11), n)
  | [], B, e3, e6, e7, e8, e9, e10, e11, _, _ => ⟨e6, e7, e8, e9, e10, e11, rfl⟩
  | c :: cs, B, e3, e6, e7, e8, e9, e10, e11, hB, hc => by
    have hp := hc c List.mem_cons_self
    have ho : (seqO bs c).Perm bs := by
      have := hp.map fun j => bs.getD j ⟨0, 0⟩
      rwa [map_range_getD] at this
    have h5 := g.l5
    obtain ⟨f7, f9, f10, f11, t⟩ := turn1 RE bs c (fun j hj => List.mem_range.mp ((hp.mem_iff).mp hj)) (by rw [hp.length_eq, List.length_range]; omega) e3 e7 e8 e9 e10 e11 n B (by rw [ho.length_eq, hB.length_eq]) (rch_pos (g.perm hB)) (rch_pos (g.perm ho)) (hR _ ho)
    have hU : (updB B (seqO bs c)).Perm bs := by
      unfold updB
      split
      · exact ho
      · exact hB
    obtain ⟨g6, g7, g8, g9, g10, g11, ih⟩ := loop25 RE bs g n S hS hR cs (updB B (seqO bs c)) e3 (some (ordD c)) f7 e8 f9 f10 f11 hU fun x hx => hc x (List.mem_cons_of_mem _ hx)
    refine ⟨g6, g7, g8, g9, g10, g11, ?_⟩
    rw [List.map_cons, List.map_cons]
    unfold dFor
    rw [show gNm 6 (ordD c) (E25 bs e3 (some (rch B).d) (some (bD B)) e6 e7 e8 e9 e10 e11) = some (E25 bs e3 (some (rch B).d) (some (bD B)) (some (ordD c)) e7 e8 e9 e10 e11) from rfl]
    dsimp only
    rw [hS] at ih ⊢
    rw [t]
    dsimp only
    exact ih
theorem cutD_take' (ds : List D) (i : Nat) : cutD ds none (some (i : Int)) = ds.take i := by
  unfold cutD
  rw [HT.sIx_none, HT.sIx_nat]
  simp only [List.drop_zero, Nat.sub_zero]
  rw [List.take_eq_take_iff]
  omega
theorem ret25 (BE : List D → M D) (bs B : List TB) (F : Fr) (e3 e6 e7 e8 e9 e10 e11 : Option D) (n : Nat) (h1 : BE [bD bs] n = some (pairD F B, n)) (h2 : BE [bD bs.reverse] n = some (pairD F B, n)) :
    sRet (dAndV (dBin hEqD (dCall BE (dAs [(dVar 2)])) (dUnA hTup (dAs [(dVar 4), (dVar 5)]))) (dBin hEqD (dCall BE (dAs [(dUn hRevT (dVar 2))])) (dUnA hTup (dAs [(dVar 4), (dVar 5)])))) (E25 bs e3 (some F.d) (some (bD B)) e6 e7 e8 e9 e10 e11) n = some (.rt (.bool true), n) := by
  have ht : dUnA hTup (dAs [(dVar 4), (dVar 5)]) (E25 bs e3 (some F.d) (some (bD B)) e6 e7 e8 e9 e10 e11) n = some (pairD F B, n) := rfl
  have hr : dUn hRevT (dVar 2) (E25 bs e3 (some F.d) (some (bD B)) e6 e7 e8 e9 e10 e11) n = some (bD bs.reverse, n) := by
    unfold bD
    rw [List.map_reverse]
    rfl
  exact sRet_of (dAndV_t (dBin_of (call1' (f := dVar 2) (x := bD bs) rfl h1) ht (pair_eq F B)) (dBin_of (call1' hr h2) ht (pair_eq F B)))
theorem it25 (LO : List D → M D) (bs : List TB) (X : List (List Nat)) (N : Nat) (h : LO [.int (bs.length : Nat)] N = some (.list (X.map ordD), N)) : iL (dCall LO (dAs [(dUnA hLen (dAs [(dVar 2)]))])) (E25 bs none (some .none) (some .none) none none none none none none) N = some (X.map ordD, N) := by
  have hlen' : hLen [bD bs] = some (.int (bs.length : Nat)) := by
    show some (PyData.int ((bs.map TB.d).length : Nat)) = _
    rw [List.length_map]
  have h := call1' (F := LO) (dU1 (f := dVar 2) (ρ := E25 bs none (some .none) (some .none) none none none none none none) (x := bD bs) (n' := N) rfl hlen') h
  unfold iL
  rw [h]
theorem tail25 (LO RE BE : List D → M D) (bs : List TB) (g : Gd bs) (h4 : bs.length ≤ 4) (N : Nat) (X : List (List Nat)) (hX : LO [.int (bs.length : Nat)] N = some (.list (X.map ordD), N)) (hcs : ∀ c ∈ X, c.Perm (List.range bs.length)) (hmem : ∀ o, o ∈ X.map (seqO bs) ↔ o.Perm bs) (hR : ∀ o : List TB, o.Perm bs → RE [bD o] N = some ((rch o).d, N)) (hBE : ∀ o : List TB, o.Perm bs → BE [bD o] N = some (pairD (rch (bestM o)) (bestM o), N)) :
    (sSeq (sAsg (gTp [(gNm 4), (gNm 5)]) (dUnA hTup (dAs [(dC .none), (dC .none)]))) (sSeq (sFor (iL (dCall LO (dAs [(dUnA hLen (dAs [(dVar 2)]))]))) (gNm 6) (body25 RE)) (sRet (dAndV (dBin hEqD (dCall BE (dAs [(dVar 2)])) (dUnA hTup (dAs [(dVar 4), (dVar 5)]))) (dBin hEqD (dCall BE (dAs [(dUn hRevT (dVar 2))])) (dUnA hTup (dAs [(dVar 4), (dVar 5)]))))))) (E25 bs none none none none none none none none none) N = some (.rt (.bool true), N) := by
  have s3 : sAsg (gTp [(gNm 4), (gNm 5)]) (dUnA hTup (dAs [(dC .none), (dC .none)])) (E25 bs none none none none none none none none none) N = some (.nx (E25 bs none (some .none) (some .none) none none none none none none), N) := rfl
  have hit := it25 LO bs X N hX
  match X, hmem, hcs, hit with
  | [], hmem, _, _ =>
    have := (hmem bs).mpr (List.Perm.refl _)
    exact absurd this List.not_mem_nil
  | c :: cs, hmem, hcs, hit =>
    have hp := hcs c List.mem_cons_self
    have ho : (seqO bs c).Perm bs := (hmem _).mp (by rw [List.map_cons]; exact List.mem_cons_self)
    obtain ⟨f7, f9, f10, f11, t⟩ := turn0 RE bs c (fun j hj => List.mem_range.mp ((hp.mem_iff).mp hj)) (by rw [hp.length_eq, List.length_range]; omega) none none none none none none N (rch (seqO bs c)) (hR _ ho)
    obtain ⟨g6, g7, g8, g9, g10, g11, hl⟩ := loop25 RE bs g N _ rfl hR cs (seqO bs c) none (some (ordD c)) f7 none f9 f10 f11 ho fun x hx => hcs x (List.mem_cons_of_mem _ hx)
    have hfor : dFor (gNm 6) (body25 RE) ((c :: cs).map ordD) (E25 bs none (some .none) (some .none) none none none none none none) N = some (.nx (E25 bs none (some (rch (foldB (cs.map (seqO bs)) (seqO bs c))).d) (some (bD (foldB (cs.map (seqO bs)) (seqO bs c)))) g6 g7 g8 g9 g10 g11), N) := by
      rw [List.map_cons]
      unfold dFor
      rw [show gNm 6 (ordD c) (E25 bs none (some .none) (some .none) none none none none none none) = some (E25 bs none (some .none) (some .none) (some (ordD c)) none none none none none) from rfl]
      dsimp only
      rw [t]
      dsimp only
      exact hl
    have hbest := fold_best (cs.map (seqO bs)) (fun x => x = seqO bs c) (seqO bs c) (fun x hx => by rw [hx]; exact (rch_pos (g.perm ho)).1) (fun o ho' => (rch_pos (g.perm ((hmem o).mp (by rw [List.map_cons]; exact List.mem_cons_of_mem _ ho')))).1) (one_best _)
    generalize foldB (cs.map (seqO bs)) (seqO bs c) = B at hbest hfor
    have hbest' : Best rch (fun o => o.Perm bs) B := by
      have e : ∀ x, (x = seqO bs c ∨ x ∈ cs.map (seqO bs)) ↔ x.Perm bs := fun x => by
        rw [← hmem x, List.map_cons, List.mem_cons]
      exact ⟨(e _).mp hbest.1, fun x hx => hbest.2 x ((e x).mpr hx)⟩
    have hsame : ∀ o o' : List TB, o.Perm bs → o'.Perm bs → o.length = o'.length := fun o o' h h' => by rw [h.length_eq, h'.length_eq]
    have b1 : bestM bs = B := Best.uniq hsame (bestM_best g h4) hbest'
    have hrev : bs.reverse.Perm bs := List.reverse_perm bs
    have grev := g.perm hrev
    have b2 : bestM bs.reverse = B := by
      have h := bestM_best grev (by rw [List.length_reverse]; exact h4)
      refine Best.uniq hsame ⟨h.1.trans hrev, fun o ho => h.2 o (List.Perm.trans ho hrev.symm)⟩ hbest'
    have r1 := hBE bs (List.Perm.refl _)
    have r2 := hBE bs.reverse hrev
    rw [b1] at r1
    rw [b2] at r2
    exact sSeq_to s3 (sSeq_to (sFor_of hit hfor) (ret25 BE bs B (rch B) none g6 g7 g8 g9 g10 g11 N r1 r2))
theorem true_law (ns : List Int) (hlen : ns.length ≤ 63) : ∃ n', s_law ns ((some mkSc :: List.replicate 11 none).set 1 (some mkSt)) 0 = some (.rt (.bool true), n') := by
  obtain ⟨a1, a10, a11, ha1⟩ := draw_ex ns 6 0 hlen (by decide) (by decide)
  obtain ⟨a2, a20, a21, ha2⟩ := draw_ex ns 6 (0 + 1) hlen (by decide) (by decide)
  obtain ⟨a3, a30, a31, ha3⟩ := draw_ex ns 6 (0 + 1 + 1) hlen (by decide) (by decide)
  obtain ⟨a4, a40, a41, ha4⟩ := draw_ex ns 6 (0 + 1 + 1 + 1) hlen (by decide) (by decide)
  obtain ⟨a5, a50, a51, ha5⟩ := draw_ex ns 6 (0 + 1 + 1 + 1 + 1) hlen (by decide) (by decide)
  obtain ⟨a6, a60, a61, ha6⟩ := draw_ex ns 6 (0 + 1 + 1 + 1 + 1 + 1) hlen (by decide) (by decide)
  obtain ⟨a7, a70, a71, ha7⟩ := draw_ex ns 6 (0 + 1 + 1 + 1 + 1 + 1 + 1) hlen (by decide) (by decide)
  obtain ⟨a8, a80, a81, ha8⟩ := draw_ex ns 6 (0 + 1 + 1 + 1 + 1 + 1 + 1 + 1) hlen (by decide) (by decide)
  obtain ⟨z, z0, z1, hz⟩ := draw_ex ns 4 (0 + 1 + 1 + 1 + 1 + 1 + 1 + 1 + 1) hlen (by decide) (by decide)
  obtain ⟨k, rfl⟩ : ∃ k : Nat, z = k := ⟨z.toNat, by omega⟩
  have hr4 : rangeD 0 4 = [.int 0, .int 1, .int 2, .int 3] := rfl
  have e0 : ((some mkSc :: List.replicate 11 none).set 1 (some mkSt)) = [some mkSc, some mkSt, none, none, none, none, none, none, none, none, none, none] := rfl
  rw [e0]
  generalize hB : ([⟨1 + a1, 1 + a2⟩, ⟨1 + a3, 1 + a4⟩, ⟨1 + a5, 1 + a6⟩, ⟨1 + a7, 1 + a8⟩] : List TB) = B4
  have hBd : bD B4 = .tuple [.tuple [.int (1 + a1), .int (1 + a2)], .tuple [.int (1 + a3), .int (1 + a4)], .tuple [.int (1 + a5), .int (1 + a6)], .tuple [.int (1 + a7), .int (1 + a8)]] := by rw [← hB]; rfl
  have hB4 : ∀ b ∈ B4, b.ok := by
    intro b hb
    rw [← hB] at hb
    simp only [List.mem_cons, List.not_mem_nil, or_false] at hb
    rcases hb with rfl | rfl | rfl | rfl <;> exact ⟨by show 1 ≤ 1 + _; omega, by show 1 + _ ≤ 8; omega, by show 1 ≤ 1 + _; omega, by show 1 + _ ≤ 9; omega⟩
  have hB4l : B4.length = 4 := by rw [← hB]; rfl
  have g : Gd (B4.take (1 + k)) := ⟨fun b hb => hB4 b (List.mem_of_mem_take hb), by rw [List.length_take, hB4l]; omega, by rw [List.length_take, hB4l]; omega⟩
  have h4 : (B4.take (1 + k)).length ≤ 4 := by rw [List.length_take, hB4l]; omega
  generalize hbsE : B4.take (1 + k) = bs at g h4
  generalize hN : (0 + 1 + 1 + 1 + 1 + 1 + 1 + 1 + 1 + 1 : Nat) = N at *
  have s1 : sSet 2 (dUnA hTupleOf (dAs [(dLc (iR1 (dAs [(dC (.int 4))])) [3] (gNm 3) dYes (dUnA hTup (dAs [(dBin hAdd (dC (.int 1)) (dCall (m_law_draw ns) (dAs [(dVar 0), (dVar 1), (dC (.int 6))]))), (dBin hAdd (dC (.int 1)) (dCall (m_law_draw ns) (dAs [(dVar 0), (dVar 1), (dC (.int 6))])))])))])) [some mkSc, some mkSt, none, none, none, none, none, none, none, none, none, none] 0 = some (.nx (E25 B4 none none none none none none none none none), 0 + 1 + 1 + 1 + 1 + 1 + 1 + 1 + 1) := by
    generalize m_law_draw ns = G at *
    show _ = some (Out.nx [some mkSc, some mkSt, some (bD B4), none, none, none, none, none, none, none, none, none], _)
    rw [hBd]
    simp [hr4, dComp, ha1, ha2, ha3, ha4, ha5, ha6, ha7, ha8]
  have s2 : sSet 2 (dSl (dVar 2) none (some (dBin hAdd (dC (.int 1)) (dCall (m_law_draw ns) (dAs [(dVar 0), (dVar 1), (dC (.int 4))]))))) (E25 B4 none none none none none none none none none) (0 + 1 + 1 + 1 + 1 + 1 + 1 + 1 + 1) = some (.nx (E25 bs none none none none none none none none none), N) := by
    have hc := cutD_take' (B4.map TB.d) (1 + k)
    rw [← List.map_take, hbsE] at hc
    rw [Int.natCast_add, Int.natCast_one] at hc
    generalize m_law_draw ns = G at *
    show sSet 2 _ [some mkSc, some mkSt, some (.tuple (B4.map TB.d)), none, none, none, none, none, none, none, none, none] _ = some (Out.nx [some mkSc, some mkSt, some (.tuple (bs.map TB.d)), none, none, none, none, none, none, none, none, none], _)
    simp [hz, hc]
  have htl := tail25 (m_law_orders ns) (m_reach ns) (m_best_sequence ns) bs g h4 N (ordsN bs.length bs.length) (law_orders_eq ns h4 N) (fun c hc => List.isPerm_iff.mp (ordsN_perm bs.length (by omega) c hc)) (fun o => mem_ordL h4) (fun o ho => reach_fn ns (g.perm ho) N) (fun o ho => best_eq ns (g.perm ho) N)
  refine ⟨N, ?_⟩
  unfold s_law
  exact sSeq_to s1 (sSeq_to s2 htl)
end DL
open PySem PySem.W PyProof.Rows in
set_option maxRecDepth 100000 in
set_option maxHeartbeats 0 in
theorem PySem.Challenge.cw_blockpiles_k25_whole_best_sequences_holds : PySem.Challenge.rw_blockpiles_k25_whole_best_sequences.Holds := by
  w_on; o_law; k_head; (case hw => w_witness2)
  k_fill
  refine L2.walk_of (l := PySem.Challenge.rw_blockpiles_k25_whole_best_sequences) (n := 63) (k := 7) (x := "_law_script") (CX := fun _ => L2.CX0) (sp := fun w => DL.spLaw _) rfl (by decide) rfl ⟨rfl, by decide, by decide⟩ (fun w h Y => PySem.W.kIn_of Y) ?F (fun _ _ a ns hl _ hS => ⟨a, ns, rfl, hS, hl, fun _ => rfl⟩) (fun _ _ _ _ _ h => h)
  case F =>
    intro w mg fa h KX G hmg
    refine' DL.all_mk KX G hmg ?a0 ?l0 ?c0 ?k0 ?a1 ?l1 ?c1 ?k1 ?a2 ?l2 ?c2 ?k2 ?a3 ?l3 ?c3 ?k3 ?a4 ?l4 ?c4 ?k4 ?a5 ?l5 ?c5 ?k5 ?a6 ?l6 ?c6 ?k6 ?a7 ?l7 ?c7 ?k7 ?a8 ?l8 ?c8 ?k8 ?a9 ?l9 ?c9 ?k9 ?a10 ?l10 ?c10 ?k10 ?a11 ?l11 ?c11 ?k11 ?a12 ?l12 ?c12 ?k12 ?a13 ?l13 ?c13 ?k13 ?a14 ?l14 ?c14 ?k14 ?a15 ?l15 ?c15 ?k15 ?a16 ?l16 ?c16 ?k16 ?a17 ?l17 ?c17 ?k17 ?a18 ?l18 ?c18 ?k18 ?z_len ?z_min ?z_range ?z_sum ?z_enumerate ?z_max ?z_isinstance ?z_tuple ?z_int ?z_bool ?z_all ?z_sorted ?y_gcd ?y_lcm ?y_permutations ?K_MOST_WIDTH ?K_MOST_WEIGHT ?K_MOST_BLOCKS DL.true_law
    (case a0 => k_is)
    (case l0 => k_is)
    (case c0 => k_is)
    (case k0 => k_is)
    (case a1 => k_is)
    (case l1 => k_is)
    (case c1 => k_is)
    (case k1 => k_is)
    (case a2 => k_is)
    (case l2 => k_is)
    (case c2 => k_is)
    (case k2 => k_is)
    (case a3 => k_is)
    (case l3 => k_is)
    (case c3 => k_is)
    (case k3 => k_is)
    (case a4 => k_is)
    (case l4 => k_is)
    (case c4 => k_is)
    (case k4 => k_is)
    (case a5 => k_is)
    (case l5 => k_is)
    (case c5 => k_is)
    (case k5 => k_is)
    (case a6 => k_is)
    (case l6 => k_is)
    (case c6 => k_is)
    (case k6 => k_is)
    (case a7 => k_is)
    (case l7 => k_is)
    (case c7 => k_is)
    (case k7 => k_is)
    (case a8 => k_is)
    (case l8 => k_is)
    (case c8 => k_is)
    (case k8 => k_is)
    (case a9 => k_is)
    (case l9 => k_is)
    (case c9 => k_is)
    (case k9 => k_is)
    (case a10 => k_is)
    (case l10 => k_is)
    (case c10 => k_is)
    (case k10 => k_is)
    (case a11 => k_is)
    (case l11 => k_is)
    (case c11 => k_is)
    (case k11 => k_is)
    (case a12 => k_is)
    (case l12 => k_is)
    (case c12 => k_is)
    (case k12 => k_is)
    (case a13 => k_is)
    (case l13 => k_is)
    (case c13 => k_is)
    (case k13 => k_is)
    (case a14 => k_is)
    (case l14 => k_is)
    (case c14 => k_is)
    (case k14 => k_is)
    (case a15 => k_is)
    (case l15 => k_is)
    (case c15 => k_is)
    (case k15 => k_is)
    (case a16 => k_is)
    (case l16 => k_is)
    (case c16 => k_is)
    (case k16 => k_is)
    (case a17 => k_is)
    (case l17 => k_is)
    (case c17 => k_is)
    (case k17 => k_is)
    (case a18 => k_is)
    (case l18 => k_is)
    (case c18 => k_is)
    (case k18 => k_is)
    (case z_len => k_is)
    (case z_min => k_is)
    (case z_range => k_is)
    (case z_sum => k_is)
    (case z_enumerate => k_is)
    (case z_max => k_is)
    (case z_isinstance => k_is)
    (case z_tuple => k_is)
    (case z_int => k_is)
    (case z_bool => k_is)
    (case z_all => k_is)
    (case z_sorted => k_is)
    (case y_gcd => k_is)
    (case y_lcm => k_is)
    (case y_permutations => k_is)
    (case K_MOST_WIDTH => exact ⟨_, by k_is, by kernel_rfl⟩)
    (case K_MOST_WEIGHT => exact ⟨_, by k_is, by kernel_rfl⟩)
    (case K_MOST_BLOCKS => exact ⟨_, by k_is, by kernel_rfl⟩)

