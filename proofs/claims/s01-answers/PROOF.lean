import PyProof.Rows.All
import Wide.All
import OpenK.AllK
import Wide.FinOn
import Open.SpecLaws
import KE.OsGo
import HandS.ForSpec
import HandS.TryMany
import HandS.IsInst
import HandS.Comp
import HandS.More
import HandS.TupAny
import PySem.Challenge.RW_loopsfound_s01_answers
set_option Elab.async false
/-! # Reading: the program's way (piece by piece, so deep) against the document's -/
namespace Lf
open VamacBase

/-- one piece -/
inductive Piece where
  | deed (d : Deed) (s : Int)
  | times (n : Nat) (b : Prog)
  | toEnd (b : Prog)
  | when (f : Nat) (v : Int) (b : Prog)
def Piece.cons : Piece → Prog → Prog
  | .deed d s, r => .deed d s r
  | .times n b, r => .times n b r
  | .toEnd b, r => .toEnd b r
  | .when f v b, r => .when f v b r
def pieces : Prog → List Piece
  | .done => []
  | .deed d s r => .deed d s :: pieces r
  | .times n b r => .times n b :: pieces r
  | .toEnd b r => .toEnd b :: pieces r
  | .when f v b r => .when f v b :: pieces r
def ofPieces : List Piece → Prog
  | [] => .done
  | p :: l => p.cons (ofPieces l)
theorem pieces_cons (p : Piece) (r : Prog) : pieces (p.cons r) = p :: pieces r := by cases p <;> rfl
theorem pieces_of : ∀ l, pieces (ofPieces l) = l
  | [] => rfl
  | p :: l => by
    show pieces (p.cons (ofPieces l)) = p :: l
    rw [pieces_cons, pieces_of l]
theorem of_pieces : ∀ p, ofPieces (pieces p) = p
  | .done => rfl
  | .deed d s r => congrArg (Prog.deed d s) (of_pieces r)
  | .times n b r => congrArg (Prog.times n b) (of_pieces r)
  | .toEnd b r => congrArg (Prog.toEnd b) (of_pieces r)
  | .when f v b r => congrArg (Prog.when f v b) (of_pieces r)
theorem row_pieces : ∀ p : Prog, p.row = (pieces p).length
  | .done => rfl
  | .deed _ _ r => congrArg (· + 1) (row_pieces r)
  | .times _ _ r => congrArg (· + 1) (row_pieces r)
  | .toEnd _ r => congrArg (· + 1) (row_pieces r)
  | .when _ _ _ r => congrArg (· + 1) (row_pieces r)

/-! ### sums over pieces -/
/-- the pieces within a piece -/
def Piece.inner : Piece → Nat
  | .deed _ _ => 0
  | .times _ b => b.size
  | .toEnd b => b.size
  | .when _ _ b => b.size
theorem size_pieces : ∀ p : Prog, p.size = (pieces p).length + ((pieces p).map Piece.inner).sum
  | .done => rfl
  | .deed _ _ r => by
    have q := size_pieces r
    simp only [pieces, Prog.size, List.length_cons, List.map_cons, List.sum_cons, Piece.inner] at *
    omega
  | .times _ b r => by
    have q := size_pieces r
    simp only [pieces, Prog.size, List.length_cons, List.map_cons, List.sum_cons, Piece.inner] at *
    omega
  | .toEnd b r => by
    have q := size_pieces r
    simp only [pieces, Prog.size, List.length_cons, List.map_cons, List.sum_cons, Piece.inner] at *
    omega
  | .when _ _ b r => by
    have q := size_pieces r
    simp only [pieces, Prog.size, List.length_cons, List.map_cons, List.sum_cons, Piece.inner] at *
    omega
def Piece.len : Piece → Nat
  | .deed _ _ => 1
  | .times n b => n * Vamacb.lengthOf b
  | .toEnd _ => 0
  | .when _ _ _ => 0
theorem length_pieces : ∀ p : Prog, Vamacb.lengthOf p = ((pieces p).map Piece.len).sum
  | .done => rfl
  | .deed _ _ r => by
    have q := length_pieces r
    simp only [pieces, Vamacb.lengthOf, List.map_cons, List.sum_cons, Piece.len] at *
    omega
  | .times _ b r => by
    have q := length_pieces r
    simp only [pieces, Vamacb.lengthOf, List.map_cons, List.sum_cons, Piece.len] at *
    omega
  | .toEnd b r => by
    have q := length_pieces r
    simp only [pieces, Vamacb.lengthOf, List.map_cons, List.sum_cons, Piece.len] at *
    omega
  | .when _ _ b r => by
    have q := length_pieces r
    simp only [pieces, Vamacb.lengthOf, List.map_cons, List.sum_cons, Piece.len] at *
    omega
def Piece.counted : Piece → Bool
  | .deed _ _ => true
  | .times _ b => Vamacb.isCounted b
  | .toEnd _ => false
  | .when _ _ _ => false
theorem counted_pieces : ∀ p : Prog, Vamacb.isCounted p = (pieces p).all Piece.counted
  | .done => rfl
  | .deed _ _ r => by
    simp only [pieces, Vamacb.isCounted, List.all_cons, Piece.counted, Bool.true_and]
    exact counted_pieces r
  | .times _ b r => by
    simp only [pieces, Vamacb.isCounted, List.all_cons, Piece.counted, counted_pieces r]
  | .toEnd b r => by simp only [pieces, Vamacb.isCounted, List.all_cons, Piece.counted, Bool.false_and]
  | .when _ _ b r => by simp only [pieces, Vamacb.isCounted, List.all_cons, Piece.counted, Bool.false_and]
/-- a deed in a round -/
def atRound (d : Deed) (s : Int) (i : Nat) : Deed := withNumber (numberOf d + s * (i : Int)) d
def Piece.told (i : Nat) : Piece → List Deed
  | .deed d s => [atRound d s i]
  | .times n b => Vamacb.unrollRounds (Vamacb.unrollFrom b) n 0
  | .toEnd _ => []
  | .when _ _ _ => []
theorem told_pieces (i : Nat) : ∀ p : Prog, Vamacb.unrollFrom p i = (pieces p).flatMap (Piece.told i)
  | .done => rfl
  | .deed _ _ r => by
    simp only [pieces, Vamacb.unrollFrom, List.flatMap_cons, Piece.told, told_pieces i r, atRound, List.singleton_append]
  | .times _ b r => by simp only [pieces, Vamacb.unrollFrom, List.flatMap_cons, Piece.told, told_pieces i r]
  | .toEnd b r => by simp only [pieces, Vamacb.unrollFrom, List.flatMap_cons, Piece.told, told_pieces i r, List.nil_append]
  | .when _ _ b r => by simp only [pieces, Vamacb.unrollFrom, List.flatMap_cons, Piece.told, told_pieces i r, List.nil_append]
theorem unrollRounds_eq (body : Nat → List Deed) : ∀ n i, Vamacb.unrollRounds body n i = (List.range n).flatMap fun j => body (i + j)
  | 0, _ => rfl
  | n + 1, i => by
    rw [Vamacb.unrollRounds, unrollRounds_eq body n (i + 1), List.range_succ_eq_map, List.flatMap_cons, List.flatMap_map]
    simp only [Nat.add_zero, Nat.succ_eq_add_one]
    congr 1
    refine congrArg (fun f => List.flatMap f (List.range n)) ?_
    funext j
    rw [Nat.add_right_comm, Nat.add_assoc]
def Piece.flat : Piece → List Int
  | .deed d s => 0 :: (flatDeed d ++ (if hasNumber d then [s] else []))
  | .times n b => 1 :: VamacBase.int n :: flatProg b
  | .toEnd b => 2 :: flatProg b
  | .when f v b => 3 :: VamacBase.int f :: v :: flatProg b
theorem flat_pieces : ∀ p : Prog, flatPieces p = (pieces p).flatMap Piece.flat
  | .done => rfl
  | .deed _ _ r => by simp only [pieces, flatPieces, List.flatMap_cons, Piece.flat, flat_pieces r, List.cons_append, List.append_assoc]
  | .times _ b r => by
    rw [pieces, flatPieces, List.flatMap_cons, flat_pieces r]
    rfl
  | .toEnd b r => by
    rw [pieces, flatPieces, List.flatMap_cons, flat_pieces r]
    rfl
  | .when _ _ b r => by
    rw [pieces, flatPieces, List.flatMap_cons, flat_pieces r]
    rfl
theorem flat_prog (p : Prog) : flatProg p = ((pieces p).length : Int) :: (pieces p).flatMap Piece.flat := by
  rw [flatProg, row_pieces, flat_pieces]
  rfl

/-! ### how the program reads -/
/-- Reader.take -/
def take (lo hi : Int) : Reader Int
  | [] => none
  | z :: r => if lo ≤ z ∧ z ≤ hi then some (z, r) else none
/-- read_piece; row: how a row within is read -/
def pieceM (row : Reader Prog) : Reader Piece := fun x => match x with
  | 0 :: y => (readDeed y).bind fun d => (if hasNumber d.1 then readValue d.2 else some (0, d.2)).map fun s => (.deed d.1 s.1, s.2)
  | 1 :: y => (readNat 1 TIMES y).bind fun k => (row k.2).map fun b => (.times k.1 b.1, b.2)
  | 2 :: y => (row y).map fun b => (.toEnd b.1, b.2)
  | 3 :: y => (readPair readField readValue y).bind fun u => (row u.2).map fun b => (.when u.1.1 u.1.2 b.1, b.2)
  | _ => none
def piecesM (row : Reader Prog) (n : Nat) : Reader Prog := fun x => (readTimes (pieceM row) n x).map fun l => (ofPieces l.1, l.2)
/-- read_row, so many rows within one another still allowed -/
def rowM : Nat → Reader Prog
  | 0, _ => none
  | d + 1, x => (readNat 0 PIECES x).bind fun k => piecesM (rowM d) k.1 k.2

theorem piecesM_zero (row : Reader Prog) (x : List Int) : piecesM row 0 x = some (.done, x) := rfl
theorem piecesM_succ (row : Reader Prog) (n : Nat) (x : List Int) : piecesM row (n + 1) x = (pieceM row x).bind fun u => (piecesM row n u.2).map fun r => (u.1.cons r.1, r.2) := by
  unfold piecesM
  rw [readTimes]
  cases pieceM row x with
  | none => rfl
  | some u =>
    simp only [Option.bind_some]
    cases readTimes (pieceM row) n u.2 with
    | none => rfl
    | some v => rfl

/-! ### against the document's reading -/
theorem readPieces_def (f n : Nat) (x : List Int) : readPieces (f + 1) n x = if n = 0 then some (.done, x) else match x with
      | 0 :: y => (readDeed y).bind fun d => (if hasNumber d.1 then readValue d.2 else some (0, d.2)).bind fun s => (readPieces f (n - 1) s.2).map fun r => (.deed d.1 s.1 r.1, r.2)
      | 1 :: y => (readNat 1 TIMES y).bind fun k => ((readNat 0 PIECES k.2).bind fun k => readPieces f k.1 k.2).bind fun b => (readPieces f (n - 1) b.2).map fun r => (.times k.1 b.1 r.1, r.2)
      | 2 :: y => ((readNat 0 PIECES y).bind fun k => readPieces f k.1 k.2).bind fun b => (readPieces f (n - 1) b.2).map fun r => (.toEnd b.1 r.1, r.2)
      | 3 :: y => (readPair readField readValue y).bind fun u => ((readNat 0 PIECES u.2).bind fun k => readPieces f k.1 k.2).bind fun b => (readPieces f (n - 1) b.2).map fun r => (.when u.1.1 u.1.2 b.1 r.1, r.2)
      | _ => none := rfl
/-- the document's one piece ahead of the rest -/
theorem readPieces_succ (f n : Nat) (x : List Int) : readPieces (f + 1) (n + 1) x = (pieceM (fun y => (readNat 0 PIECES y).bind fun k => readPieces f k.1 k.2) x).bind fun u => (readPieces f n u.2).map fun r => (u.1.cons r.1, r.2) := by
  rw [readPieces_def, if_neg (Nat.succ_ne_zero n), Nat.add_sub_cancel]
  generalize readPieces f = rp
  unfold pieceM
  split
  · rename_i y
    cases readDeed y with
    | none => rfl
    | some d =>
      simp only [Option.bind_some]
      cases (if hasNumber d.1 then readValue d.2 else some (0, d.2)) with
      | none => rfl
      | some s => rfl
  · rename_i y
    cases readNat 1 TIMES y with
    | none => rfl
    | some k =>
      simp only [Option.bind_some]
      cases ((readNat 0 PIECES k.2).bind fun k => rp k.1 k.2) with
      | none => rfl
      | some b => rfl
  · rename_i y
    simp only []
    cases ((readNat 0 PIECES y).bind fun k => rp k.1 k.2) with
    | none => rfl
    | some b => rfl
  · rename_i y
    cases readPair readField readValue y with
    | none => rfl
    | some u =>
      simp only [Option.bind_some]
      cases ((readNat 0 PIECES u.2).bind fun k => rp k.1 k.2) with
      | none => rfl
      | some b => rfl
  · rfl
theorem readPieces_zero (f : Nat) (x : List Int) : readPieces (f + 1) 0 x = some (.done, x) := by
  rw [readPieces_def, if_pos rfl]

/-! ### sizes of what is left -/
theorem readNat_some {lo hi : Nat} {x r : List Int} {n : Nat} (h : readNat lo hi x = some (n, r)) : x = (n : Int) :: r ∧ lo ≤ n ∧ n ≤ hi := by
  unfold readNat at h
  split at h
  · cases h
  · rename_i z r'
    split at h
    · rename_i c
      have c1 : (lo : Int) ≤ z := c.1
      have c2 : z ≤ (hi : Int) := c.2
      have e := Option.some.inj h
      have e1 : z.toNat = n := congrArg Prod.fst e
      have e2 : r' = r := congrArg Prod.snd e
      subst e2
      refine ⟨?_, by omega, by omega⟩
      congr 1
      omega
    · cases h
theorem readValue_some {x r : List Int} {v : Int} (h : readValue x = some (v, r)) : x = v :: r ∧ okValue v = true := by
  unfold readValue at h
  split at h
  · cases h
  · split at h
    · rename_i c
      have e := Option.some.inj h
      have e1 := congrArg Prod.fst e
      have e2 := congrArg Prod.snd e
      simp only at e1 e2
      subst e1 e2
      exact ⟨rfl, c⟩
    · cases h
theorem readPair_some {A B : Type} {a : Reader A} {b : Reader B} {x r : List Int} {u : A × B} (h : readPair a b x = some (u, r)) : ∃ y, a x = some (u.1, y) ∧ b y = some (u.2, r) := by
  unfold readPair at h
  obtain ⟨p, hp, q⟩ := Option.bind_eq_some_iff.mp h
  obtain ⟨v, hv, e⟩ := Option.map_eq_some_iff.mp q
  have e1 := congrArg Prod.fst e
  have e2 := congrArg Prod.snd e
  simp only at e1 e2
  subst e1 e2
  exact ⟨p.2, hp, hv⟩
theorem fv_some {x r : List Int} {u : Nat × Int} (h : readPair readField readValue x = some (u, r)) : x = (u.1 : Int) :: u.2 :: r ∧ u.1 ≤ 2 ∧ okValue u.2 = true := by
  obtain ⟨y, h1, h2⟩ := readPair_some h
  obtain ⟨e1, _, b⟩ := readNat_some h1
  obtain ⟨e2, c⟩ := readValue_some h2
  subst e2
  exact ⟨e1, b, c⟩
theorem readDeed_some {x r : List Int} {d : Deed} (h : readDeed x = some (d, r)) : x = flatDeed d ++ r ∧ okDeed d = true := by
  unfold readDeed at h
  split at h
  · cases h; exact ⟨rfl, rfl⟩
  · cases h; exact ⟨rfl, rfl⟩
  · cases h; exact ⟨rfl, rfl⟩
  · obtain ⟨v, hv, e⟩ := Option.map_eq_some_iff.mp h
    cases e
    obtain ⟨e, b, c⟩ := fv_some (u := v.1) (r := v.2) hv
    subst e
    exact ⟨rfl, by simp only [okDeed, okField, FIELDS, c, Bool.and_true]; exact decide_eq_true (Nat.lt_succ_of_le b)⟩
  · obtain ⟨v, hv, e⟩ := Option.map_eq_some_iff.mp h
    cases e
    obtain ⟨e, b, c⟩ := fv_some (u := v.1) (r := v.2) hv
    subst e
    exact ⟨rfl, by simp only [okDeed, okField, FIELDS, c, Bool.and_true]; exact decide_eq_true (Nat.lt_succ_of_le b)⟩
  · obtain ⟨v, hv, e⟩ := Option.map_eq_some_iff.mp h
    cases e
    obtain ⟨e, _, b⟩ := readNat_some (n := v.1) (r := v.2) hv
    subst e
    exact ⟨rfl, by simp only [okDeed, okField, decide_eq_true_eq]; exact Nat.lt_succ_of_le b⟩
  · obtain ⟨v, hv, e⟩ := Option.map_eq_some_iff.mp h
    cases e
    obtain ⟨e, _, b⟩ := readNat_some (n := v.1) (r := v.2) hv
    subst e
    exact ⟨rfl, by simp only [okDeed, okField, decide_eq_true_eq]; exact Nat.lt_succ_of_le b⟩
  · cases h; exact ⟨rfl, rfl⟩
  · cases h; exact ⟨rfl, rfl⟩
  · obtain ⟨v, hv, e⟩ := Option.map_eq_some_iff.mp h
    cases e
    obtain ⟨e, b, c⟩ := fv_some (u := v.1) (r := v.2) hv
    subst e
    exact ⟨rfl, by simp only [okDeed, okField, FIELDS, c, Bool.and_true]; exact decide_eq_true (Nat.lt_succ_of_le b)⟩
  · cases h
theorem flatDeed_pos (d : Deed) : 1 ≤ (flatDeed d).length := by cases d <;> exact Nat.le_add_left _ _

def Piece.Inner (P : Prog → Prop) : Piece → Prop
  | .deed _ _ => True
  | .times _ b => P b
  | .toEnd b => P b
  | .when _ _ b => P b
/-- another way to read the rows within that gives the same -/
theorem pieceM_mono {row row' : Reader Prog} {x r : List Int} {u : Piece} {P : Prog → Prop} (h : pieceM row x = some (u, r)) (hP : u.Inner P) (k : ∀ y b r', y.length < x.length → P b → row y = some (b, r') → row' y = some (b, r')) : pieceM row' x = some (u, r) := by
  unfold pieceM at h ⊢
  split at h
  · exact h
  · rename_i y
    obtain ⟨n, hn, h2⟩ := Option.bind_eq_some_iff.mp h
    obtain ⟨b, hb, e⟩ := Option.map_eq_some_iff.mp h2
    cases e
    have e1 := (readNat_some (n := n.1) (r := n.2) hn).1
    have hb' := k n.2 b.1 b.2 (by rw [e1]; simp only [List.length_cons]; omega) hP hb
    show ((readNat 1 TIMES y).bind fun k => (row' k.2).map fun b => (Piece.times k.1 b.1, b.2)) = _
    rw [hn, Option.bind_some, hb', Option.map_some]
  · rename_i y
    obtain ⟨b, hb, e⟩ := Option.map_eq_some_iff.mp h
    cases e
    have hb' := k y b.1 b.2 (by simp only [List.length_cons]; omega) hP hb
    show ((row' y).map fun b => (Piece.toEnd b.1, b.2)) = _
    rw [hb', Option.map_some]
  · rename_i y
    obtain ⟨n, hn, h2⟩ := Option.bind_eq_some_iff.mp h
    obtain ⟨b, hb, e⟩ := Option.map_eq_some_iff.mp h2
    cases e
    have e1 := (fv_some (u := n.1) (r := n.2) hn).1
    have hb' := k n.2 b.1 b.2 (by rw [e1]; simp only [List.length_cons]; omega) hP hb
    show ((readPair readField readValue y).bind fun u => (row' u.2).map fun b => (Piece.when u.1.1 u.1.2 b.1, b.2)) = _
    rw [hn, Option.bind_some, hb', Option.map_some]
  · cases h
/-- what a piece is, in its four forms -/
theorem pieceM_some {row : Reader Prog} {x r : List Int} {u : Piece} (h : pieceM row x = some (u, r)) :
    (∃ d s y z, x = 0 :: y ∧ readDeed y = some (d, z) ∧ u = .deed d s ∧ okValue s = true ∧ (hasNumber d = true → z = s :: r) ∧ (hasNumber d = false → s = 0 ∧ z = r)) ∨
    (∃ (n : Nat) (b : Prog) (y : List Int), x = 1 :: (n : Int) :: y ∧ 1 ≤ n ∧ n ≤ 9 ∧ row y = some (b, r) ∧ u = .times n b) ∨
    (∃ b y, x = 2 :: y ∧ row y = some (b, r) ∧ u = .toEnd b) ∨
    (∃ (f : Nat) (v : Int) (b : Prog) (y : List Int), x = 3 :: (f : Int) :: v :: y ∧ f ≤ 2 ∧ okValue v = true ∧ row y = some (b, r) ∧ u = .when f v b) := by
  unfold pieceM at h
  split at h
  · rename_i y
    obtain ⟨d, hd, h2⟩ := Option.bind_eq_some_iff.mp h
    obtain ⟨s, hs, e⟩ := Option.map_eq_some_iff.mp h2
    cases e
    refine .inl ⟨d.1, s.1, y, d.2, rfl, hd, rfl, ?_⟩
    cases c : hasNumber d.1 with
    | true =>
      rw [c, if_pos rfl] at hs
      obtain ⟨e, q⟩ := readValue_some (v := s.1) (r := s.2) hs
      exact ⟨q, fun _ => e, (fun z => nomatch z)⟩
    | false =>
      rw [c, if_neg Bool.false_ne_true] at hs
      cases hs
      exact ⟨rfl, (fun z => nomatch z), fun _ => ⟨rfl, rfl⟩⟩
  · rename_i y
    obtain ⟨n, hn, h2⟩ := Option.bind_eq_some_iff.mp h
    obtain ⟨b, hb, e⟩ := Option.map_eq_some_iff.mp h2
    cases e
    obtain ⟨e1, l1, l2⟩ := readNat_some (n := n.1) (r := n.2) hn
    exact .inr (.inl ⟨n.1, b.1, n.2, by rw [e1], l1, l2, hb, rfl⟩)
  · rename_i y
    obtain ⟨b, hb, e⟩ := Option.map_eq_some_iff.mp h
    cases e
    exact .inr (.inr (.inl ⟨b.1, y, rfl, hb, rfl⟩))
  · rename_i y
    obtain ⟨n, hn, h2⟩ := Option.bind_eq_some_iff.mp h
    obtain ⟨b, hb, e⟩ := Option.map_eq_some_iff.mp h2
    cases e
    obtain ⟨e1, l1, l2⟩ := fv_some (u := n.1) (r := n.2) hn
    exact .inr (.inr (.inr ⟨n.1.1, n.1.2, b.1, n.2, by rw [e1], l1, l2, hb, rfl⟩))
  · cases h
theorem pieceM_less {row : Reader Prog} {x r : List Int} {u : Piece} (h : pieceM row x = some (u, r)) (k : ∀ y b r', row y = some (b, r') → r'.length < y.length) : r.length < x.length := by
  rcases pieceM_some h with ⟨d, s, y, z, rfl, hd, _, _, h1, h2⟩ | ⟨n, b, y, rfl, _, _, hb, _⟩ | ⟨b, y, rfl, hb, _⟩ | ⟨f, v, b, y, rfl, _, _, hb, _⟩
  · have e := (readDeed_some hd).1
    have p := flatDeed_pos d
    subst e
    cases c : hasNumber d with
    | true =>
      rw [h1 c]
      simp only [List.length_cons, List.length_append]
      omega
    | false =>
      rw [(h2 c).2]
      simp only [List.length_cons, List.length_append]
      omega
  · have q := k y b r hb
    simp only [List.length_cons]
    omega
  · have q := k y b r hb
    simp only [List.length_cons]
    omega
  · have q := k y b r hb
    simp only [List.length_cons]
    omega
theorem readDeed_less {x r : List Int} {d : Deed} (h : readDeed x = some (d, r)) : r.length < x.length := by
  have e := (readDeed_some h).1
  have p := flatDeed_pos d
  subst e
  simp only [List.length_append]
  omega
theorem readDeed_num {d : Deed} {x r : List Int} (h : readDeed x = some (d, r)) : okDeed d = true := (readDeed_some h).2
theorem pieceM_ok {row : Reader Prog} {x r : List Int} {u : Piece} {q : Prog} (h : pieceM row x = some (u, r)) (hi : u.Inner fun b => okPieces b = true) (hq : okPieces q = true) : okPieces (u.cons q) = true := by
  rcases pieceM_some h with ⟨d, s, y, z, rfl, hd, rfl, hs, h1, h2⟩ | ⟨n, b, y, rfl, h1, h2, hb, rfl⟩ | ⟨b, y, rfl, hb, rfl⟩ | ⟨f, v, b, y, rfl, h1, h2, hb, rfl⟩
  · show (okDeed d && (okValue s && ((hasNumber d || s == 0) && okPieces q))) = true
    rw [readDeed_num hd, hs, hq]
    cases c : hasNumber d with
    | true => rfl
    | false =>
      rw [(h2 c).1]
      rfl
  · show (decide (1 ≤ n) && (decide (n ≤ TIMES) && (okPieces b && okPieces q))) = true
    rw [decide_eq_true h1, decide_eq_true (show n ≤ TIMES from h2), hq, show okPieces b = true from hi]
    rfl
  · show (okPieces b && okPieces q) = true
    rw [hq, show okPieces b = true from hi]
    rfl
  · show (okField f && (okValue v && (okPieces b && okPieces q))) = true
    rw [h2, hq, show okPieces b = true from hi, show okField f = true from decide_eq_true (Nat.lt_succ_of_le h1)]
    rfl
def Piece.depth : Piece → Nat
  | .deed _ _ => 0
  | .times _ b => b.depth + 1
  | .toEnd b => b.depth + 1
  | .when _ _ b => b.depth + 1
theorem depth_cons (u : Piece) (q : Prog) : (u.cons q).depth = Nat.max u.depth q.depth := by
  cases u with
  | deed d s =>
    show q.depth = Nat.max 0 q.depth
    exact (Nat.max_eq_right (Nat.zero_le _)).symm
  | times n b => rfl
  | toEnd b => rfl
  | when f v b => rfl
theorem Piece.inner_le {u : Piece} {d : Nat} (h : u.depth ≤ d + 1) : u.Inner fun b => b.depth ≤ d := by
  cases u with
  | deed _ _ => trivial
  | times n b => exact Nat.le_of_succ_le_succ h
  | toEnd b => exact Nat.le_of_succ_le_succ h
  | when f v b => exact Nat.le_of_succ_le_succ h
theorem Piece.depth_le {u : Piece} {d : Nat} (h : u.Inner fun b => b.depth ≤ d) : u.depth ≤ d + 1 := by
  cases u with
  | deed _ _ => exact Nat.zero_le _
  | times n b => exact Nat.succ_le_succ h
  | toEnd b => exact Nat.succ_le_succ h
  | when f v b => exact Nat.succ_le_succ h
theorem Piece.inner_all {u : Piece} {P : Prog → Prop} (h : ∀ b, P b) : u.Inner P := by
  cases u with
  | deed _ _ => trivial
  | times n b => exact h b
  | toEnd b => exact h b
  | when f v b => exact h b

/-- what is read by pieceM from rows with a property has it within -/
theorem pieceM_inner {row : Reader Prog} {x r : List Int} {u : Piece} {P : Prog → Prop} (h : pieceM row x = some (u, r)) (k : ∀ y b r', row y = some (b, r') → P b) : u.Inner P := by
  rcases pieceM_some h with ⟨d, s, y, z, rfl, hd, rfl, _⟩ | ⟨n, b, y, rfl, h1, h2, hb, rfl⟩ | ⟨b, y, rfl, hb, rfl⟩ | ⟨f, v, b, y, rfl, h1, h2, hb, rfl⟩
  · trivial
  · exact k y b r hb
  · exact k y b r hb
  · exact k y b r hb

theorem piecesM_less {row : Reader Prog} (k : ∀ y b r', row y = some (b, r') → r'.length < y.length) : ∀ (n : Nat) {x r : List Int} {p : Prog}, piecesM row n x = some (p, r) → r.length ≤ x.length
  | 0, x, r, p, h => by
    rw [piecesM_zero] at h
    cases h
    exact Nat.le_refl _
  | n + 1, x, r, p, h => by
    rw [piecesM_succ] at h
    obtain ⟨u, hu, h2⟩ := Option.bind_eq_some_iff.mp h
    obtain ⟨q, hq, e⟩ := Option.map_eq_some_iff.mp h2
    cases e
    have a := pieceM_less (u := u.1) (r := u.2) hu k
    have b := piecesM_less k n (p := q.1) (r := q.2) hq
    omega
theorem rowM_less : ∀ (d : Nat) {x r : List Int} {p : Prog}, rowM d x = some (p, r) → r.length < x.length
  | 0, x, r, p, h => by cases h
  | d + 1, x, r, p, h => by
    obtain ⟨n, hn, h2⟩ := Option.bind_eq_some_iff.mp (show ((readNat 0 PIECES x).bind fun k => piecesM (rowM d) k.1 k.2) = some (p, r) from h)
    have e := (readNat_some (n := n.1) (r := n.2) hn).1
    have b := piecesM_less (fun y b r' hh => rowM_less d hh) n.1 (p := p) (r := r) h2
    rw [e]
    simp only [List.length_cons]
    omega
theorem piecesM_inner {row : Reader Prog} {P : Prog → Prop} (h0 : P .done) (hc : ∀ x u r q, pieceM row x = some (u, r) → P q → P (u.cons q)) : ∀ (n : Nat) {x r : List Int} {p : Prog}, piecesM row n x = some (p, r) → P p
  | 0, x, r, p, h => by
    rw [piecesM_zero] at h
    cases h
    exact h0
  | n + 1, x, r, p, h => by
    rw [piecesM_succ] at h
    obtain ⟨u, hu, h2⟩ := Option.bind_eq_some_iff.mp h
    obtain ⟨q, hq, e⟩ := Option.map_eq_some_iff.mp h2
    cases e
    exact hc x u.1 u.2 q.1 hu (piecesM_inner h0 hc n (p := q.1) (r := q.2) hq)
theorem rowM_ok : ∀ (d : Nat) {x r : List Int} {p : Prog}, rowM d x = some (p, r) → okPieces p = true
  | 0, x, r, p, h => by cases h
  | d + 1, x, r, p, h => by
    obtain ⟨n, hn, h2⟩ := Option.bind_eq_some_iff.mp (show ((readNat 0 PIECES x).bind fun k => piecesM (rowM d) k.1 k.2) = some (p, r) from h)
    exact piecesM_inner (P := fun p => okPieces p = true) rfl (fun x u r q hu hq => pieceM_ok hu (pieceM_inner hu fun y b r' hh => rowM_ok d hh) hq) n.1 (p := p) (r := r) h2
theorem rowM_depth : ∀ (d : Nat) {x r : List Int} {p : Prog}, rowM d x = some (p, r) → p.depth < d
  | 0, x, r, p, h => by cases h
  | d + 1, x, r, p, h => by
    obtain ⟨n, hn, h2⟩ := Option.bind_eq_some_iff.mp (show ((readNat 0 PIECES x).bind fun k => piecesM (rowM d) k.1 k.2) = some (p, r) from h)
    refine Nat.lt_succ_of_le (piecesM_inner (P := fun p => p.depth ≤ d) (Nat.zero_le _) (fun x u r q hu hq => ?_) n.1 (p := p) (r := r) h2)
    rw [depth_cons]
    refine Nat.max_le.mpr ⟨?_, hq⟩
    have i := pieceM_inner (P := fun b => b.depth < d) hu fun y b r' hh => rowM_depth d hh
    cases u with
    | deed _ _ => exact Nat.zero_le _
    | times n b => exact i
    | toEnd b => exact i
    | when f v b => exact i
/-- enough fuel: the document reads the same -/
theorem read_of_rowM : ∀ (d f : Nat) {n : Nat} {x r : List Int} {p : Prog}, piecesM (rowM d) n x = some (p, r) → x.length < f → readPieces f n x = some (p, r)
  | d, 0, n, x, r, p, h, hf => by omega
  | d, f + 1, 0, x, r, p, h, hf => by
    rw [piecesM_zero] at h
    rw [readPieces_zero]
    exact h
  | d, f + 1, n + 1, x, r, p, h, hf => by
    rw [piecesM_succ] at h
    obtain ⟨u, hu, h2⟩ := Option.bind_eq_some_iff.mp h
    obtain ⟨q, hq, e⟩ := Option.map_eq_some_iff.mp h2
    have l := pieceM_less (u := u.1) (r := u.2) hu fun y b r' hh => rowM_less d hh
    have hu' := pieceM_mono (row' := fun y => (readNat 0 PIECES y).bind fun k => readPieces f k.1 k.2) (P := fun _ => True) (u := u.1) (r := u.2) hu (Piece.inner_all fun _ => trivial) fun y b r' hl _ hh => by
      cases d with
      | zero => cases hh
      | succ d =>
        obtain ⟨m, hm, h3⟩ := Option.bind_eq_some_iff.mp (show ((readNat 0 PIECES y).bind fun k => piecesM (rowM d) k.1 k.2) = some (b, r') from hh)
        show ((readNat 0 PIECES y).bind fun k => readPieces f k.1 k.2) = some (b, r')
        rw [hm, Option.bind_some]
        have e1 := (readNat_some (n := m.1) (r := m.2) hm).1
        refine read_of_rowM d f h3 ?_
        rw [e1] at hl
        simp only [List.length_cons] at hl
        omega
    rw [readPieces_succ, hu', Option.bind_some, read_of_rowM d f (p := q.1) (r := q.2) hq (by omega), Option.map_some]
    exact congrArg some e
theorem rowM_of_read : ∀ (f d : Nat) {n : Nat} {x r : List Int} {p : Prog}, readPieces f n x = some (p, r) → p.depth ≤ d → piecesM (rowM d) n x = some (p, r)
  | 0, d, n, x, r, p, h, hd => by cases h
  | f + 1, d, 0, x, r, p, h, hd => by
    rw [readPieces_zero] at h
    exact h
  | f + 1, d, n + 1, x, r, p, h, hd => by
    rw [readPieces_succ] at h
    obtain ⟨u, hu, h2⟩ := Option.bind_eq_some_iff.mp h
    obtain ⟨q, hq, e⟩ := Option.map_eq_some_iff.mp h2
    have e1 : u.1.cons q.1 = p := congrArg Prod.fst e
    rw [← e1, depth_cons] at hd
    have hd1 : u.1.depth ≤ d := Nat.le_trans (Nat.le_max_left _ _) hd
    have hd2 : q.1.depth ≤ d := Nat.le_trans (Nat.le_max_right _ _) hd
    have hu' : pieceM (rowM d) x = some u := by
      cases d with
      | zero =>
        have z : u.1.Inner fun _ => False := by
          have hd1' := hd1
          cases c : u.1 with
          | deed _ _ => trivial
          | times n b =>
            rw [c] at hd1'
            exact absurd hd1' (Nat.not_succ_le_zero _)
          | toEnd b =>
            rw [c] at hd1'
            exact absurd hd1' (Nat.not_succ_le_zero _)
          | when f v b =>
            rw [c] at hd1'
            exact absurd hd1' (Nat.not_succ_le_zero _)
        exact pieceM_mono (P := fun _ => False) (u := u.1) (r := u.2) hu z fun _ _ _ _ z _ => z.elim
      | succ d =>
        refine pieceM_mono (P := fun b => b.depth ≤ d) (u := u.1) (r := u.2) hu (Piece.inner_le hd1) fun y b r' _ hb hh => ?_
        obtain ⟨m, hm, h3⟩ := Option.bind_eq_some_iff.mp hh
        show ((readNat 0 PIECES y).bind fun k => piecesM (rowM d) k.1 k.2) = some (b, r')
        rw [hm, Option.bind_some]
        exact rowM_of_read f d h3 hb
    rw [piecesM_succ, hu', Option.bind_some, rowM_of_read f d (p := q.1) (r := q.2) hq hd2, Option.map_some]
    exact congrArg some e
/-- **a whole program**: the program's own reading, its pieces counted behind it -/
theorem prog_read (l : List Int) : whole readProg l = (match rowM 4 l with
    | some (p, []) => if p.size ≤ PIECES then some p else none
    | _ => none) := by
  cases h : rowM 4 l with
  | some u =>
    obtain ⟨p, r⟩ := u
    obtain ⟨n, hn, h2⟩ := Option.bind_eq_some_iff.mp (show ((readNat 0 PIECES l).bind fun k => piecesM (rowM 3) k.1 k.2) = some (p, r) from h)
    have e1 := (readNat_some (n := n.1) (r := n.2) hn).1
    have hr := read_of_rowM 3 (l.length + 1) h2 (by rw [e1]; simp only [List.length_cons]; omega)
    have ok := rowM_ok 4 h
    have dp := rowM_depth 4 h
    have e : readProg l = if p.size ≤ PIECES then some (p, r) else none := by
      show ((readNat 0 PIECES l).bind fun k => (readPieces (l.length + 1) k.1 k.2).bind fun u => if okProg u.1 then some u else none) = _
      rw [hn, Option.bind_some, hr, Option.bind_some]
      show (if (okPieces p && (decide (p.size ≤ PIECES) && decide (p.depth ≤ DEPTH))) = true then some (p, r) else none) = _
      rw [ok, decide_eq_true (show p.depth ≤ DEPTH from Nat.le_of_lt_succ dp), Bool.and_true, Bool.true_and]
      by_cases c : p.size ≤ PIECES
      · rw [if_pos c, decide_eq_true c, if_pos rfl]
      · rw [if_neg c, decide_eq_false c, if_neg Bool.false_ne_true]
    unfold whole
    rw [e]
    by_cases c : p.size ≤ PIECES
    · rw [if_pos c]
      cases r with
      | nil => exact (if_pos c).symm
      | cons _ _ => rfl
    · rw [if_neg c]
      cases r with
      | nil => exact (if_neg c).symm
      | cons _ _ => rfl
  | none =>
    unfold whole
    cases q : readProg l with
    | none => rfl
    | some u =>
      exfalso
      obtain ⟨n, hn, h2⟩ := Option.bind_eq_some_iff.mp (show ((readNat 0 PIECES l).bind fun k => (readPieces (l.length + 1) k.1 k.2).bind fun u => if okProg u.1 then some u else none) = some u from q)
      obtain ⟨v, hv, h3⟩ := Option.bind_eq_some_iff.mp h2
      split at h3
      · rename_i c
        have c2 : (okPieces v.1 && (decide (v.1.size ≤ PIECES) && decide (v.1.depth ≤ DEPTH))) = true := c
        rw [Bool.and_eq_true, Bool.and_eq_true] at c2
        have z := rowM_of_read (l.length + 1) 3 (p := v.1) (r := v.2) hv (of_decide_eq_true c2.2.2)
        have h' : ((readNat 0 PIECES l).bind fun k => piecesM (rowM 3) k.1 k.2) = none := h
        rw [hn, Option.bind_some, z] at h'
        cases h'
      · cases h3
end Lf

set_option Elab.async false
set_option linter.all false
set_option maxHeartbeats 4000000
/-! # Calls out of one list -/
namespace Lf

/-- whether a call has a list -/
def hasList (p : Int) : Bool := decide (p = 0) || (decide (p = 1) || (decide (p = 5) || (decide (p = 6) || decide (p = 9))))
/-- a call by its number and its list (none: an empty one) -/
def kOf (p : Int) (ns : List Int) : Option Vamacb.Call := if p = 0 then some (.record ns) else if p = 1 then some (.add ns) else if p = 2 then some .drop else if p = 3 then some .count else if p = 4 then some .least else if p = 5 then some (.is ns) else if p = 6 then some (.unroll ns) else if p = 7 then some .next else if p = 8 then some .loops else if p = 9 then some (.play ns) else if p = 10 then some .told else none
theorem shape_in {p : Int} {x : Nat × Nat} (h : PyVamacb.shape p = some x) : 0 ≤ p ∧ p ≤ 10 := by
  unfold PyVamacb.shape at h
  repeat' (split at h; first | (rename_i c; omega) | skip)
  all_goals first | omega | cases h
theorem shape_kinds {p : Int} {x : Nat × Nat} (h : PyVamacb.shape p = some x) : (hasList p = true ∧ x = (0, 1)) ∨ (hasList p = false ∧ x = (0, 0)) := by
  obtain ⟨h1, h2⟩ := shape_in h
  have e : p = 0 ∨ p = 1 ∨ p = 2 ∨ p = 3 ∨ p = 4 ∨ p = 5 ∨ p = 6 ∨ p = 7 ∨ p = 8 ∨ p = 9 ∨ p = 10 := by omega
  rcases e with rfl | rfl | rfl | rfl | rfl | rfl | rfl | rfl | rfl | rfl | rfl
  all_goals first | exact .inl ⟨by decide, (Option.some.inj h).symm⟩ | exact .inr ⟨by decide, (Option.some.inj h).symm⟩
theorem step_call {p : Int} {ns : List Int} (h : 0 ≤ p ∧ p ≤ 10) : ∃ k, kOf p ns = some k ∧ ∀ s, VamacbNeutral.step s (PyVamacb.whole (if hasList p then [[p], ns] else [[p]])) = Vamacb.step s k := by
  have e : p = 0 ∨ p = 1 ∨ p = 2 ∨ p = 3 ∨ p = 4 ∨ p = 5 ∨ p = 6 ∨ p = 7 ∨ p = 8 ∨ p = 9 ∨ p = 10 := by omega
  rcases e with rfl | rfl | rfl | rfl | rfl | rfl | rfl | rfl | rfl | rfl | rfl
  all_goals exact ⟨_, rfl, fun _ => rfl⟩
theorem call_list {p : Int} {r : List Int} {c : List (List Int)} {t : List Int} (hs : PyVamacb.shape p = some (0, 1)) (h : PyFlat.call PyVamacb.shape (p :: r) = some (c, t)) : ∃ n r', r = n :: r' ∧ 0 ≤ n ∧ n.toNat ≤ r'.length ∧ c = [[p], r'.take n.toNat] ∧ t = r'.drop n.toNat := by
  unfold PyFlat.call at h
  simp only [hs, Nat.not_lt_zero, if_false, List.drop_zero, List.take_zero] at h
  unfold PyFlat.rows at h
  cases r with
  | nil => cases h
  | cons n r' =>
    unfold PyFlat.row at h
    simp only [] at h
    by_cases q : 0 ≤ n ∧ n.toNat ≤ r'.length
    · rw [if_pos q] at h
      unfold PyFlat.rows at h
      cases h
      exact ⟨n, r', rfl, q.1, q.2, rfl, rfl⟩
    · rw [if_neg q] at h
      cases h
theorem call_bare {p : Int} {r : List Int} {c : List (List Int)} {t : List Int} (hs : PyVamacb.shape p = some (0, 0)) (h : PyFlat.call PyVamacb.shape (p :: r) = some (c, t)) : c = [[p]] ∧ t = r := by
  unfold PyFlat.call at h
  simp only [hs, Nat.not_lt_zero, if_false, List.drop_zero, List.take_zero] at h
  unfold PyFlat.rows at h
  cases h
  exact ⟨rfl, rfl⟩
/-- the first call of a list that is whole of calls -/
theorem flat_cons {f : Nat} {p : Int} {r : List Int} {cs : List (List (List Int))} (h : PyFlat.calls PyVamacb.shape f (p :: r) = some cs) :
    ∃ f' ns t cs' k, cs = (if hasList p then [[p], ns] else [[p]]) :: cs' ∧ PyFlat.calls PyVamacb.shape f' t = some cs' ∧ (0 ≤ p ∧ p ≤ 10) ∧ kOf p ns = some k ∧ (∀ s, VamacbNeutral.step s (PyVamacb.whole (if hasList p then [[p], ns] else [[p]])) = Vamacb.step s k) ∧
      ((hasList p = true ∧ ∃ n r', r = n :: r' ∧ 0 ≤ n ∧ n.toNat ≤ r'.length ∧ ns = r'.take n.toNat ∧ t = r'.drop n.toNat) ∨ (hasList p = false ∧ ns = [] ∧ t = r)) := by
  cases f with
  | zero => cases h
  | succ f =>
    unfold PyFlat.calls at h
    cases hc : PyFlat.call PyVamacb.shape (p :: r) with
    | none =>
      rw [hc] at h
      cases h
    | some u =>
      obtain ⟨c, t⟩ := u
      rw [hc] at h
      simp only [] at h
      cases ht : PyFlat.calls PyVamacb.shape f t with
      | none =>
        rw [ht] at h
        cases h
      | some cs' =>
        rw [ht] at h
        cases h
        cases hs : PyVamacb.shape p with
        | none =>
          unfold PyFlat.call at hc
          simp only [hs] at hc
          cases hc
        | some x =>
          have hin := shape_in hs
          rcases shape_kinds hs with ⟨hl, rfl⟩ | ⟨hl, rfl⟩
          · obtain ⟨n, r', rfl, h1, h2, rfl, rfl⟩ := call_list hs hc
            obtain ⟨k, k1, k2⟩ := step_call (ns := r'.take n.toNat) hin
            exact ⟨f, r'.take n.toNat, r'.drop n.toNat, cs', k, by rw [hl]; rfl, ht, hin, k1, k2, .inl ⟨hl, n, r', rfl, h1, h2, rfl, rfl⟩⟩
          · obtain ⟨rfl, rfl⟩ := call_bare hs hc
            obtain ⟨k, k1, k2⟩ := step_call (ns := []) hin
            exact ⟨f, [], t, cs', k, by rw [hl]; rfl, ht, hin, k1, k2, .inr ⟨hl, rfl, rfl⟩⟩
/-- what is answered by calls, from a state on -/
def toldFrom (s : Vamacb.State) (cs : List (List (List Int))) : List Int := PyFlat.told (PyFlat.played VamacbNeutral.step s (cs.map PyVamacb.whole))
theorem told_nil (s : Vamacb.State) : toldFrom s [] = [] := rfl
theorem told_cons {s : Vamacb.State} {c : List (List Int)} {cs : List (List (List Int))} {k : Vamacb.Call} (h : ∀ s, VamacbNeutral.step s (PyVamacb.whole c) = Vamacb.step s k) :
    toldFrom s (c :: cs) = (((Vamacb.step s k).2.length : Int) :: (Vamacb.step s k).2) ++ toldFrom (Vamacb.step s k).1 cs := by
  show ((VamacbNeutral.step s (PyVamacb.whole c)).2.length : Int) :: (VamacbNeutral.step s (PyVamacb.whole c)).2 ++ PyFlat.told (PyFlat.played VamacbNeutral.step (VamacbNeutral.step s (PyVamacb.whole c)).1 (cs.map PyVamacb.whole)) = _
  rw [h]
  rfl
/-- what is asked: the calls are whole, the answers not too many -/
theorem asked_calls {l : List Int} (h : PyVamacb.answers_asked l = true) : ∃ cs, PyFlat.calls PyVamacb.shape l.length l = some cs ∧ PyVamacb.answers l = toldFrom ⟨[]⟩ cs ∧ (PyVamacb.answers l).length ≤ 10000000 := by
  unfold PyVamacb.answers_asked at h
  cases hc : PyFlat.calls PyVamacb.shape l.length l with
  | none =>
    rw [hc] at h
    cases h
  | some cs =>
    rw [hc] at h
    simp only [Bool.and_eq_true] at h
    refine ⟨cs, rfl, ?_, of_decide_eq_true h.2⟩
    unfold PyVamacb.answers PyVamacb.calls
    rw [hc]
    rfl
end Lf

set_option Elab.async false
set_option linter.all false
set_option maxRecDepth 100000
set_option maxHeartbeats 4000000
/-! # Foldings: the program's way (by what is left, by choices of a first piece) against the document's -/
namespace Lf
open VamacBase (Deed Prog)
open Vamacb (Folded Rounds)

/-! ### results -/
/-- none are counted just where there is no least one -/
def Good (f : Folded) : Prop := f.best = none ↔ f.count = 0
theorem folded_ext {a b : Folded} (h1 : a.count = b.count) (h2 : a.best = b.best) : a = b := by
  cases a; cases b
  simp only at h1 h2
  rw [h1, h2]
theorem orElse_nothing (f : Folded) : Vamacb.orElse f Vamacb.nothing = f := by
  refine folded_ext rfl ?_
  show (match f.best, (none : Option Prog) with | none, y => y | x, none => x | some p, some q => if q.size < p.size then some q else some p) = f.best
  cases f.best <;> rfl
theorem nothing_orElse (f : Folded) : Vamacb.orElse Vamacb.nothing f = f := folded_ext (Nat.zero_add _) rfl
theorem good_nothing : Good Vamacb.nothing := ⟨fun _ => rfl, fun _ => rfl⟩
theorem good_none {f : Folded} (g : Good f) (h : f.count = 0) : f = Vamacb.nothing := folded_ext h (g.mpr h)
theorem good_some {f : Folded} (g : Good f) (h : f.count ≠ 0) : ∃ p, f.best = some p := by
  cases e : f.best with
  | none => exact absurd (g.mp e) h
  | some p => exact ⟨p, rfl⟩
theorem orElse_best {a b : Folded} {p q : Prog} (h1 : a.best = some p) (h2 : b.best = some q) : (Vamacb.orElse a b).best = if q.size < p.size then some q else some p := by
  show (match a.best, b.best with | none, y => y | x, none => x | some p, some q => if q.size < p.size then some q else some p) = _
  rw [h1, h2]
theorem good_orElse {a b : Folded} (ga : Good a) (gb : Good b) : Good (Vamacb.orElse a b) := by
  by_cases ha : a.count = 0
  · rw [good_none ga ha, nothing_orElse]
    exact gb
  · by_cases hb : b.count = 0
    · rw [good_none gb hb, orElse_nothing]
      exact ga
    · obtain ⟨p, hp⟩ := good_some ga ha
      obtain ⟨q, hq⟩ := good_some gb hb
      refine ⟨fun h => ?_, fun h => ?_⟩
      · rw [orElse_best hp hq] at h
        split at h <;> cases h
      · have h' : a.count + b.count = 0 := h
        omega

/-! ### a first piece -/
/-- in how many ways, the (least) piece, how many deeds it takes -/
structure First where
  ways : Nat
  piece : Piece
  width : Nat
def comb (x : First) (g : Folded) : Folded := ⟨x.ways * g.count, g.best.map x.piece.cons⟩
theorem good_comb {x : First} {g : Folded} (hx : x.ways ≠ 0) (hg : Good g) : Good (comb x g) := by
  constructor
  · intro h
    have h' : g.best.map x.piece.cons = none := h
    rw [Option.map_eq_none_iff] at h'
    show x.ways * g.count = 0
    rw [hg.mp h', Nat.mul_zero]
  · intro h
    have h' : x.ways * g.count = 0 := h
    rcases Nat.mul_eq_zero.mp h' with h' | h'
    · exact absurd h' hx
    · show g.best.map x.piece.cons = none
      rw [hg.mpr h']
      rfl
theorem withDeed_comb (d : Deed × Int) (r : Folded) : Vamacb.withDeed d r = comb ⟨1, .deed d.1 d.2, 1⟩ r := folded_ext (Nat.one_mul _).symm rfl
theorem withLoop_comb {k w : Nat} {b r : Folded} {x : Prog} (h : b.best = some x) : Vamacb.withLoop k b r = comb ⟨b.count, .times k x, w⟩ r := by
  refine folded_ext rfl ?_
  show (b.best.bind fun x => r.best.map fun y => Prog.times k x y) = r.best.map (Piece.times k x).cons
  rw [h]
  rfl
theorem withLoop_none {k : Nat} {b r : Folded} (g : Good b) (h : b.best = none) : Vamacb.withLoop k b r = Vamacb.nothing := by
  refine folded_ext ?_ ?_
  · show b.count * r.count = 0
    rw [g.mp h, Nat.zero_mul]
  · show (b.best.bind fun x => r.best.map fun y => Prog.times k x y) = none
    rw [h]
    rfl

/-! ### the table by what is left -/
/-- one place of the document's row, what lies behind it told -/
def placeOf : Nat → Rounds → Nat → Nat → List Folded → Folded
  | 0, rs, _, p, l => match Vamacb.deedAt rs p with
    | none => Vamacb.nothing
    | some d => Vamacb.withDeed d ((l.head?).getD Vamacb.nothing)
  | f + 1, rs, n, p, l => Vamacb.rowAt (Vamacb.fold f) rs n p l
def tab (f : Nat) (rs : Rounds) (n : Nat) : Nat → List Folded
  | 0 => [⟨1, some .done⟩]
  | left + 1 => placeOf f rs n (n - (left + 1)) (tab f rs n left) :: tab f rs n left
theorem tab_length (f : Nat) (rs : Rounds) (n : Nat) : ∀ left, (tab f rs n left).length = left + 1
  | 0 => rfl
  | left + 1 => congrArg (· + 1) (tab_length f rs n left)
def valAt (f : Nat) (rs : Rounds) (n left : Nat) : Folded := ((tab f rs n left).head?).getD Vamacb.nothing
theorem tab_get (f : Nat) (rs : Rounds) (n : Nat) : ∀ left i, i ≤ left → (tab f rs n left)[i]? = some (valAt f rs n (left - i))
  | 0, i, h => by
    cases Nat.le_zero.mp h
    rfl
  | left + 1, 0, _ => rfl
  | left + 1, i + 1, h => by
    show (tab f rs n left)[i]? = _
    rw [tab_get f rs n left i (by omega), Nat.succ_sub_succ]
theorem foldr_tab (f : Nat) (rs : Rounds) (n : Nat) : ∀ left, left ≤ n → ((List.range n).drop (n - left)).foldr (fun p l => placeOf f rs n p l :: l) [⟨1, some .done⟩] = tab f rs n left
  | 0, _ => by
    rw [Nat.sub_zero, List.drop_eq_nil_of_le (by rw [List.length_range]; exact Nat.le_refl _)]
    rfl
  | left + 1, h => by
    have e : (List.range n).drop (n - (left + 1)) = (n - (left + 1)) :: (List.range n).drop (n - left) := by
      rw [List.drop_eq_getElem_cons (by rw [List.length_range]; omega), List.getElem_range]
      congr 2
      omega
    rw [e, List.foldr_cons, foldr_tab f rs n left (by omega)]
    rfl
theorem fold_tab (f : Nat) (rs : Rounds) : Vamacb.fold f rs = valAt f rs (rs.headD []).length (rs.headD []).length := by
  have h := foldr_tab f rs (rs.headD []).length (rs.headD []).length (Nat.le_refl _)
  rw [Nat.sub_self, List.drop_zero] at h
  unfold valAt
  rw [← h]
  cases f with
  | zero => rfl
  | succ f => rfl

/-! ### a place by its choices -/
/-- the deed as a first piece -/
def deedFirst (rs : Rounds) (p : Nat) : List First := match Vamacb.deedAt rs p with
  | none => []
  | some d => [⟨1, .deed d.1 d.2, 1⟩]
/-- a loop as a first piece -/
def loopFirst (f : Nat) (rs : Rounds) (p : Nat) (x : Nat × Nat) : Option First := match Vamacb.innerAt rs p x.1 x.2 with
  | none => none
  | some i => match (Vamacb.fold f i).best with
    | none => none
    | some b => some ⟨(Vamacb.fold f i).count, .times x.2 b, x.1 * x.2⟩
def firstsOf : Nat → Rounds → Nat → Nat → List First
  | 0, rs, _, p => deedFirst rs p
  | f + 1, rs, n, p => deedFirst rs p ++ (Vamacb.loopsAt n p).filterMap (loopFirst f rs p)
/-- all first pieces put together -/
def joined (fs : List First) (behind : Nat → Folded) (left : Nat) : Folded := (fs.map fun x => comb x (behind (left - x.width))).foldl Vamacb.orElse Vamacb.nothing
theorem loops_in {n p : Nat} {x : Nat × Nat} (h : x ∈ Vamacb.loopsAt n p) : 1 ≤ x.1 ∧ 2 ≤ x.2 ∧ x.2 ≤ 9 ∧ p + x.1 * x.2 ≤ n := by
  unfold Vamacb.loopsAt at h
  obtain ⟨m, hm, h2⟩ := List.mem_flatMap.mp h
  obtain ⟨k, hk, h3⟩ := List.mem_filterMap.mp h2
  split at h3
  · rename_i c
    cases h3
    obtain ⟨i, hi, e⟩ := List.mem_iff_getElem.mp hm
    obtain ⟨j, hj, e2⟩ := List.mem_iff_getElem.mp hk
    rw [List.length_drop, List.length_range] at hi hj
    rw [List.getElem_drop, List.getElem_range] at e e2
    have hj' : j < 9 + 1 - 2 := hj
    exact ⟨by omega, by omega, by omega, c⟩
  · cases h3
theorem foldl_skip {f : Nat} (good : ∀ i, Good (Vamacb.fold f i)) {rs : Rounds} {p left : Nat} {next : Nat → Folded} {behind : Nat → Folded} : ∀ (l : List (Nat × Nat)) (a : Folded), (∀ x ∈ l, next (p + x.1 * x.2) = behind (left - x.1 * x.2)) →
    l.foldl (fun g x => match Vamacb.innerAt rs p x.1 x.2 with
      | none => g
      | some i => Vamacb.orElse g (Vamacb.withLoop x.2 (Vamacb.fold f i) (next (p + x.1 * x.2)))) a = ((l.filterMap (loopFirst f rs p)).map fun x => comb x (behind (left - x.width))).foldl Vamacb.orElse a
  | [], a, _ => rfl
  | x :: l, a, h => by
    have hx := h x (List.mem_cons_self ..)
    have ih := fun b => foldl_skip good (rs := rs) (p := p) (left := left) (next := next) (behind := behind) l b fun y hy => h y (List.mem_cons_of_mem _ hy)
    rw [List.foldl_cons, ih, List.filterMap_cons]
    unfold loopFirst
    cases e : Vamacb.innerAt rs p x.1 x.2 with
    | none => rfl
    | some i =>
      simp only []
      cases e2 : (Vamacb.fold f i).best with
      | none =>
        simp only []
        rw [withLoop_none (good i) e2, orElse_nothing]
      | some b =>
        simp only [List.map_cons, List.foldl_cons]
        rw [withLoop_comb (w := x.1 * x.2) e2, hx]
theorem place_joined {f : Nat} (good : ∀ g, g + 1 = f → ∀ i, Good (Vamacb.fold g i)) {rs : Rounds} {n left : Nat} (h : left + 1 ≤ n) :
    placeOf f rs n (n - (left + 1)) (tab f rs n left) = joined (firstsOf f rs n (n - (left + 1))) (valAt f rs n) (left + 1) := by
  have hd : ∀ t : List First, (((deedFirst rs (n - (left + 1)) ++ t).map fun x => comb x (valAt f rs n (left + 1 - x.width))).foldl Vamacb.orElse Vamacb.nothing) =
      ((t.map fun x => comb x (valAt f rs n (left + 1 - x.width))).foldl Vamacb.orElse (match Vamacb.deedAt rs (n - (left + 1)) with | none => Vamacb.nothing | some d => Vamacb.withDeed d (valAt f rs n left))) := fun t => by
    unfold deedFirst
    cases Vamacb.deedAt rs (n - (left + 1)) with
    | none => rfl
    | some d =>
      simp only [List.map_append, List.map_cons, List.map_nil, List.foldl_append, List.foldl_cons, List.foldl_nil, List.cons_append, List.nil_append]
      rw [nothing_orElse, withDeed_comb]
      rfl
  cases f with
  | zero =>
    have h0 := hd []
    rw [List.append_nil] at h0
    show _ = ((deedFirst rs (n - (left + 1))).map _).foldl _ _
    rw [h0]
    rfl
  | succ f =>
    show Vamacb.rowAt (Vamacb.fold f) rs n (n - (left + 1)) (tab (f + 1) rs n left) = ((deedFirst rs (n - (left + 1)) ++ (Vamacb.loopsAt n (n - (left + 1))).filterMap (loopFirst f rs (n - (left + 1)))).map _).foldl _ _
    rw [hd]
    have key := foldl_skip (f := f) (good f rfl) (rs := rs) (p := n - (left + 1)) (left := left + 1) (next := fun q => ((tab (f + 1) rs n left)[q - (n - (left + 1)) - 1]?).getD Vamacb.nothing) (behind := valAt (f + 1) rs n) (Vamacb.loopsAt n (n - (left + 1)))
      (match Vamacb.deedAt rs (n - (left + 1)) with | none => Vamacb.nothing | some d => Vamacb.withDeed d (valAt (f + 1) rs n left)) fun x hx => by
        obtain ⟨h1, h2, _, h4⟩ := loops_in hx
        have hw : 1 ≤ x.1 * x.2 := Nat.le_trans h1 (Nat.le_mul_of_pos_right _ (by omega))
        show ((tab (f + 1) rs n left)[n - (left + 1) + x.1 * x.2 - (n - (left + 1)) - 1]?).getD Vamacb.nothing = _
        rw [Nat.add_sub_cancel_left, tab_get (f + 1) rs n left (x.1 * x.2 - 1) (by omega)]
        show valAt (f + 1) rs n (left - (x.1 * x.2 - 1)) = _
        congr 1
        omega
    rw [← key]
    show (Vamacb.loopsAt n (n - (left + 1))).foldl _ _ = _
    have e0 : ((tab (f + 1) rs n left)[n - (left + 1) + 1 - (n - (left + 1)) - 1]?).getD Vamacb.nothing = valAt (f + 1) rs n left := by
      rw [Nat.add_sub_cancel_left, tab_get (f + 1) rs n left 0 (Nat.zero_le _)]
      rfl
    simp only [e0]
    rfl
theorem val_zero (f : Nat) (rs : Rounds) (n : Nat) : valAt f rs n 0 = ⟨1, some .done⟩ := rfl
theorem val_succ {f : Nat} (good : ∀ g, g + 1 = f → ∀ i, Good (Vamacb.fold g i)) {rs : Rounds} {n left : Nat} (h : left + 1 ≤ n) : valAt f rs n (left + 1) = joined (firstsOf f rs n (n - (left + 1))) (valAt f rs n) (left + 1) := place_joined good h

/-! ### all are good -/
theorem good_foldl : ∀ (l : List Folded) (a : Folded), Good a → (∀ x ∈ l, Good x) → Good (l.foldl Vamacb.orElse a)
  | [], a, h, _ => h
  | x :: l, a, h, k => good_foldl l _ (good_orElse h (k x (List.mem_cons_self ..))) fun y hy => k y (List.mem_cons_of_mem _ hy)
theorem first_ways {f : Nat} (good : ∀ g, g + 1 = f → ∀ i, Good (Vamacb.fold g i)) {rs : Rounds} {n p : Nat} {x : First} (h : x ∈ firstsOf f rs n p) : x.ways ≠ 0 := by
  have hd : ∀ y, y ∈ deedFirst rs p → y.ways ≠ 0 := fun y hy => by
    unfold deedFirst at hy
    split at hy
    · cases hy
    · cases hy with
      | head => exact Nat.one_ne_zero
      | tail _ h => cases h
  cases f with
  | zero => exact hd x h
  | succ f =>
    rcases List.mem_append.mp h with h | h
    · exact hd x h
    · obtain ⟨y, hy, e⟩ := List.mem_filterMap.mp h
      unfold loopFirst at e
      split at e
      · cases e
      · rename_i i _
        split at e
        · cases e
        · rename_i b hb
          cases e
          intro z
          rw [(good f rfl i).mpr z] at hb
          cases hb
theorem good_val {f : Nat} (good : ∀ g, g + 1 = f → ∀ i, Good (Vamacb.fold g i)) (rs : Rounds) (n : Nat) : ∀ m left, left ≤ m → left ≤ n → Good (valAt f rs n left)
  | _, 0, _, _ => ⟨fun h => (nomatch h), fun h => (nomatch h)⟩
  | 0, left + 1, h, _ => absurd h (Nat.not_succ_le_zero _)
  | m + 1, left + 1, hm, h => by
    rw [val_succ good h]
    refine good_foldl _ _ good_nothing fun x hx => ?_
    obtain ⟨y, hy, rfl⟩ := List.mem_map.mp hx
    by_cases c : y.width = 0
    · exfalso
      have hd : ∀ y, y ∈ deedFirst rs (n - (left + 1)) → y.width ≠ 0 := fun y hy => by
        unfold deedFirst at hy
        split at hy
        · cases hy
        · cases hy with
          | head => exact Nat.one_ne_zero
          | tail _ h => cases h
      cases f with
      | zero => exact hd y hy c
      | succ f =>
        rcases List.mem_append.mp hy with h2 | h2
        · exact hd y h2 c
        · obtain ⟨z, hz, e⟩ := List.mem_filterMap.mp h2
          obtain ⟨l1, l2, _, _⟩ := loops_in hz
          unfold loopFirst at e
          split at e
          · cases e
          · split at e
            · cases e
            · cases e
              have c' : z.1 * z.2 = 0 := c
              rcases Nat.mul_eq_zero.mp c' with c' | c' <;> omega
    · exact good_comb (first_ways good hy) (good_val good rs n m _ (by omega) (by omega))
theorem good_fold : ∀ (f : Nat) (rs : Rounds), Good (Vamacb.fold f rs)
  | 0, rs => by
    rw [fold_tab]
    exact good_val (fun g hg => absurd hg (Nat.succ_ne_zero g)) rs _ _ _ (Nat.le_refl _) (Nat.le_refl _)
  | f + 1, rs => by
    rw [fold_tab]
    exact good_val (fun g hg => by cases hg; exact good_fold f) rs _ _ _ (Nat.le_refl _) (Nat.le_refl _)
theorem good_less (f : Nat) : ∀ g, g + 1 = f → ∀ i, Good (Vamacb.fold g i) := fun g _ => good_fold g
end Lf

set_option Elab.async false
set_option linter.all false
set_option maxRecDepth 100000
set_option maxHeartbeats 4000000
/-! # Foldings over places of one row of deeds -/
namespace Lf
open VamacBase (Deed Prog)
open Vamacb (Folded Rounds)

/-! ### how many there may be -/
theorem loops_few : ∀ n < 15, ∀ p < 15, (Vamacb.loopsAt n p).length ≤ 63 := by decide +kernel
theorem inner_len {rs i : Rounds} {p m k : Nat} (h : Vamacb.innerAt rs p m k = some i) : (i.headD []).length ≤ m := by
  unfold Vamacb.innerAt at h
  simp only [] at h
  split at h
  · cases h
    cases k with
    | zero => exact Nat.zero_le _
    | succ k =>
      rw [List.range_succ_eq_map, List.map_cons]
      show (List.take m _).length ≤ m
      rw [List.length_take]
      exact Nat.min_le_left _ _
  · cases h
theorem foldl_count : ∀ (l : List Folded) (a : Folded) (b : Nat), (∀ x ∈ l, x.count ≤ b) → (l.foldl Vamacb.orElse a).count ≤ a.count + l.length * b
  | [], a, b, _ => by
    show a.count ≤ a.count + 0 * b
    omega
  | x :: l, a, b, h => by
    have h1 := h x (List.mem_cons_self ..)
    have h2 := foldl_count l (Vamacb.orElse a x) b fun y hy => h y (List.mem_cons_of_mem _ hy)
    have h3 : (Vamacb.orElse a x).count = a.count + x.count := rfl
    rw [List.foldl_cons, List.length_cons, Nat.succ_mul]
    omega
theorem firsts_few {f n p : Nat} (rs : Rounds) (hn : n < 15) (hp : p < 15) : (firstsOf f rs n p).length ≤ 64 := by
  have hd : (deedFirst rs p).length ≤ 1 := by
    unfold deedFirst
    split
    · exact Nat.zero_le _
    · exact Nat.le_refl _
  cases f with
  | zero => exact Nat.le_trans hd (by decide)
  | succ f =>
    show (deedFirst rs p ++ (Vamacb.loopsAt n p).filterMap (loopFirst f rs p)).length ≤ 64
    have h1 := loops_few n hn p hp
    have h2 := List.length_filterMap_le (loopFirst f rs p) (Vamacb.loopsAt n p)
    rw [List.length_append]
    omega
theorem count_val {f : Nat} (ih : ∀ g, g + 1 = f → ∀ i : Rounds, (i.headD []).length ≤ 14 → (Vamacb.fold g i).count ≤ 2 ^ (6 * (i.headD []).length)) (rs : Rounds) {n : Nat} (hn : n ≤ 14) : ∀ m left, left ≤ m → left ≤ n → (valAt f rs n left).count ≤ 2 ^ (6 * left)
  | _, 0, _, _ => Nat.le_refl 1
  | 0, left + 1, h, _ => absurd h (Nat.not_succ_le_zero _)
  | m + 1, left + 1, hm, h => by
    rw [val_succ (good_less f) h]
    have key : ∀ x ∈ (firstsOf f rs n (n - (left + 1))).map (fun x => comb x (valAt f rs n (left + 1 - x.width))), x.count ≤ 2 ^ (6 * left) := fun x hx => by
      obtain ⟨y, hy, rfl⟩ := List.mem_map.mp hx
      have hd : ∀ y, y ∈ deedFirst rs (n - (left + 1)) → (comb y (valAt f rs n (left + 1 - y.width))).count ≤ 2 ^ (6 * left) := fun y hy => by
        unfold deedFirst at hy
        split at hy
        · cases hy
        · cases hy with
          | head =>
            show 1 * (valAt f rs n (left + 1 - 1)).count ≤ _
            rw [Nat.one_mul, Nat.add_sub_cancel]
            exact count_val ih rs hn m left (by omega) (by omega)
          | tail _ h => cases h
      cases f with
      | zero => exact hd y hy
      | succ f =>
        rcases List.mem_append.mp hy with h2 | h2
        · exact hd y h2
        · obtain ⟨z, hz, e⟩ := List.mem_filterMap.mp h2
          obtain ⟨l1, l2, l3, l4⟩ := loops_in hz
          unfold loopFirst at e
          split at e
          · cases e
          · rename_i i hi
            split at e
            · cases e
            · cases e
              show (Vamacb.fold f i).count * (valAt (f + 1) rs n (left + 1 - z.1 * z.2)).count ≤ _
              have hw : 2 * z.1 ≤ z.1 * z.2 := by
                rw [Nat.mul_comm z.1 z.2]
                exact Nat.mul_le_mul_right _ l2
              have hil := inner_len hi
              have a1 := ih f rfl i (by omega)
              have a2 := count_val ih rs hn m (left + 1 - z.1 * z.2) (by omega) (by omega)
              have a3 : 2 ^ (6 * (i.headD []).length) ≤ 2 ^ (6 * z.1) := Nat.pow_le_pow_right (by decide) (by omega)
              refine Nat.le_trans (Nat.mul_le_mul (Nat.le_trans a1 a3) a2) ?_
              rw [← Nat.pow_add]
              exact Nat.pow_le_pow_right (by decide) (by omega)
    have h1 := foldl_count _ Vamacb.nothing _ key
    have h2 := firsts_few (f := f) (p := n - (left + 1)) rs (show n < 15 by omega) (by omega)
    rw [List.length_map] at h1
    have h3 : (Vamacb.nothing).count = 0 := rfl
    have h4 : (firstsOf f rs n (n - (left + 1))).length * 2 ^ (6 * left) ≤ 64 * 2 ^ (6 * left) := Nat.mul_le_mul_right _ h2
    have h5 : 2 ^ (6 * (left + 1)) = 64 * 2 ^ (6 * left) := by
      rw [Nat.mul_add, Nat.pow_add, Nat.mul_comm]
    rw [h5]
    unfold joined
    omega
theorem count_fold : ∀ (f : Nat) (i : Rounds), (i.headD []).length ≤ 14 → (Vamacb.fold f i).count ≤ 2 ^ (6 * (i.headD []).length)
  | 0, i, h => by
    rw [fold_tab]
    exact count_val (fun g hg => absurd hg (Nat.succ_ne_zero g)) i h _ _ (Nat.le_refl _) (Nat.le_refl _)
  | f + 1, i, h => by
    rw [fold_tab]
    exact count_val (fun g hg => by cases hg; exact count_fold f) i h _ _ (Nat.le_refl _) (Nat.le_refl _)

/-! ### rounds as places of one row of deeds -/
def roundsOf (ds : List Deed) (st len rds : Nat) : Rounds := (List.range rds).map fun j => (ds.drop (st + j * len)).take len
theorem rounds_head {ds : List Deed} {st len rds : Nat} (h : 1 ≤ rds) (hf : st + rds * len ≤ ds.length) : ((roundsOf ds st len rds).headD []).length = len := by
  cases rds with
  | zero => exact absurd h (Nat.not_succ_le_zero _)
  | succ r =>
    unfold roundsOf
    rw [List.range_succ_eq_map, List.map_cons]
    show (List.take len (ds.drop (st + 0 * len))).length = len
    rw [List.length_take, List.length_drop, Nat.zero_mul, Nat.add_zero]
    rw [Nat.succ_mul] at hf
    have : 0 ≤ r * len := Nat.zero_le _
    omega
theorem rounds_one (ds : List Deed) : roundsOf ds 0 ds.length 1 = [ds] := by
  show [(ds.drop (0 + 0 * ds.length)).take ds.length] = [ds]
  rw [Nat.zero_mul, Nat.add_zero, List.drop_zero, List.take_length]
/-- a place in a round -/
theorem mul_fit {st len rds j p total : Nat} (hf : st + rds * len ≤ total) (hj : j < rds) (hp : p ≤ len) : st + p + j * len ≤ total := by
  have h1 : (j + 1) * len ≤ rds * len := Nat.mul_le_mul_right _ hj
  rw [Nat.succ_mul] at h1
  omega
theorem filterMap_all {α β : Type} {f : α → Option β} {c : α → β} : ∀ {l : List α}, (∀ j ∈ l, f j = some (c j)) → l.filterMap f = l.map c
  | [], _ => rfl
  | a :: l, h => by
    rw [List.filterMap_cons, h a (List.mem_cons_self ..), List.map_cons]
    exact congrArg _ (filterMap_all fun j hj => h j (List.mem_cons_of_mem _ hj))
theorem column_eq {ds : List Deed} {st len rds p : Nat} {c : Nat → Deed} (hp : p < len) (hc : ∀ j < rds, ds[st + p + j * len]? = some (c j)) : Vamacb.column (roundsOf ds st len rds) p = (List.range rds).map c := by
  unfold Vamacb.column roundsOf
  rw [List.filterMap_map]
  refine filterMap_all fun j hj => ?_
  have hj' := List.mem_range.mp hj
  show ((ds.drop (st + j * len)).take len)[p]? = some (c j)
  rw [List.getElem?_take_of_lt hp, List.getElem?_drop, ← hc j hj']
  congr 1
  omega
/-- the step of a column -/
def stepIn (c : Nat → Deed) (rds : Nat) : Int := if rds = 1 then 0 else VamacBase.numberOf (c 1) - VamacBase.numberOf (c 0)
def fitsIn (c : Nat → Deed) (rds : Nat) : Prop := VamacBase.okValue (stepIn c rds) = true ∧ ∀ j, 1 ≤ j → j < rds → c j = atRound (c 0) (stepIn c rds) j
theorem withNumber_self (d : Deed) : VamacBase.withNumber (VamacBase.numberOf d) d = d := by cases d <;> rfl
theorem atRound_zero (d : Deed) (s : Int) : atRound d s 0 = d := by
  unfold atRound
  rw [show VamacBase.numberOf d + s * ((0 : Nat) : Int) = VamacBase.numberOf d by simp]
  exact withNumber_self d
theorem stepOf_map {c : Nat → Deed} {rds : Nat} (h : 1 ≤ rds) : (fitsIn c rds → Vamacb.stepOf ((List.range rds).map c) = some (stepIn c rds)) ∧ (¬ fitsIn c rds → Vamacb.stepOf ((List.range rds).map c) = none) := by
  match rds, h with
  | 1, _ =>
    refine ⟨fun _ => rfl, fun n => absurd ?_ n⟩
    exact ⟨rfl, fun j h1 h2 => absurd h2 (by omega)⟩
  | r + 2, _ =>
    have e : (List.range (r + 2)).map c = c 0 :: c 1 :: (List.range r).map fun j => c (j + 2) := by
      rw [List.range_succ_eq_map, List.range_succ_eq_map]
      simp [List.map_map, Function.comp_def]
    have s : stepIn c (r + 2) = VamacBase.numberOf (c 1) - VamacBase.numberOf (c 0) := if_neg (by omega)
    have all : ((c 0 :: c 1 :: (List.range r).map fun j => c (j + 2)).zipIdx.all fun d => d.1 == VamacBase.withNumber (VamacBase.numberOf (c 0) + stepIn c (r + 2) * (d.2 : Int)) (c 0)) = true ↔ ∀ j, 1 ≤ j → j < r + 2 → c j = atRound (c 0) (stepIn c (r + 2)) j := by
      rw [← e, List.all_eq_true]
      constructor
      · intro h j h1 h2
        have m : (c j, j) ∈ ((List.range (r + 2)).map c).zipIdx := by
          rw [List.mem_zipIdx_iff_getElem?, List.getElem?_map, List.getElem?_range h2]
          rfl
        exact eq_of_beq (h _ m)
      · intro h x hx
        rw [List.mem_zipIdx_iff_getElem?, List.getElem?_map] at hx
        obtain ⟨j, hj, e2⟩ := Option.map_eq_some_iff.mp hx
        have hlt : x.2 < r + 2 := by
          by_cases q : x.2 < r + 2
          · exact q
          · rw [List.getElem?_eq_none (by rw [List.length_range]; omega)] at hj
            cases hj
        rw [List.getElem?_range hlt] at hj
        cases hj
        by_cases z : x.2 = 0
        · rw [← e2, z]
          exact beq_iff_eq.mpr (atRound_zero _ _).symm
        · rw [← e2]
          exact beq_iff_eq.mpr (h x.2 (by omega) hlt)
    have def_ : Vamacb.stepOf ((List.range (r + 2)).map c) = if (VamacBase.okValue (stepIn c (r + 2)) && ((c 0 :: c 1 :: (List.range r).map fun j => c (j + 2)).zipIdx.all fun d => d.1 == VamacBase.withNumber (VamacBase.numberOf (c 0) + stepIn c (r + 2) * (d.2 : Int)) (c 0))) = true then some (stepIn c (r + 2)) else none := by
      rw [e, s]
      rfl
    rw [def_]
    refine ⟨fun ⟨a, b⟩ => if_pos (by rw [a, all.mpr b]; rfl), fun n => if_neg fun z => n ?_⟩
    rw [Bool.and_eq_true] at z
    exact ⟨z.1, all.mp z.2⟩
theorem deedFirst_eq {ds : List Deed} {st len rds p : Nat} {c : Nat → Deed} (h : 1 ≤ rds) (hp : p < len) (hc : ∀ j < rds, ds[st + p + j * len]? = some (c j)) :
    (fitsIn c rds → deedFirst (roundsOf ds st len rds) p = [⟨1, .deed (c 0) (stepIn c rds), 1⟩]) ∧ (¬ fitsIn c rds → deedFirst (roundsOf ds st len rds) p = []) := by
  obtain ⟨s1, s2⟩ := stepOf_map (c := c) h
  have e : ∃ t, (List.range rds).map c = c 0 :: t := by
    cases rds with
    | zero => exact absurd h (Nat.not_succ_le_zero _)
    | succ r =>
      rw [List.range_succ_eq_map]
      exact ⟨_, rfl⟩
  obtain ⟨t, e⟩ := e
  have hd : Vamacb.deedAt (roundsOf ds st len rds) p = (Vamacb.stepOf ((List.range rds).map c)).map fun s => (c 0, s) := by
    unfold Vamacb.deedAt
    rw [column_eq hp hc, e]
  refine ⟨fun f => ?_, fun f => ?_⟩
  · unfold deedFirst
    rw [hd, s1 f]
    rfl
  · unfold deedFirst
    rw [hd, s2 f]
    rfl
/-- the rounds around do the same there -/
def sameIn (ds : List Deed) (at_ len rds w : Nat) : Prop := ∀ j, 1 ≤ j → j < rds → (ds.drop (at_ + j * len)).take w = (ds.drop at_).take w
theorem innerAt_eq {ds : List Deed} {st len rds p m k : Nat} (h : 1 ≤ rds) (hf : st + rds * len ≤ ds.length) (hp : p + m * k ≤ len) :
    (sameIn ds (st + p) len rds (m * k) → Vamacb.innerAt (roundsOf ds st len rds) p m k = some (roundsOf ds (st + p) m k)) ∧ (¬ sameIn ds (st + p) len rds (m * k) → Vamacb.innerAt (roundsOf ds st len rds) p m k = none) := by
  have part : ∀ j, (((ds.drop (st + j * len)).take len).drop p).take (m * k) = (ds.drop (st + p + j * len)).take (m * k) := fun j => by
    rw [List.drop_take, List.drop_drop, List.take_take, Nat.min_eq_left (by omega)]
    congr 2
    omega
  have parts : (roundsOf ds st len rds).map (fun r => (r.drop p).take (m * k)) = (List.range rds).map fun j => (ds.drop (st + p + j * len)).take (m * k) := by
    unfold roundsOf
    rw [List.map_map]
    refine List.map_congr_left fun j _ => ?_
    exact part j
  have hl : (((List.range rds).map fun j => (ds.drop (st + p + j * len)).take (m * k)).all fun x => x.length == m * k) = true := by
    rw [List.all_eq_true]
    intro x hx
    obtain ⟨j, hj, rfl⟩ := List.mem_map.mp hx
    have hj' := List.mem_range.mp hj
    have := mul_fit (p := len) hf hj' (Nat.le_refl _)
    rw [List.length_take, List.length_drop]
    exact beq_iff_eq.mpr (by omega)
  have hs : Vamacb.allSame ((List.range rds).map fun j => (ds.drop (st + p + j * len)).take (m * k)) = true ↔ sameIn ds (st + p) len rds (m * k) := by
    cases rds with
    | zero => exact absurd h (Nat.not_succ_le_zero _)
    | succ r =>
      rw [List.range_succ_eq_map, List.map_cons, List.map_map]
      show (List.all _ _) = true ↔ _
      rw [List.all_eq_true]
      constructor
      · intro a j h1 h2
        have q := a _ (List.mem_map.mpr ⟨j - 1, List.mem_range.mpr (by omega), rfl⟩)
        have q' := eq_of_beq q
        simp only [Function.comp_def, Nat.succ_eq_add_one, Nat.zero_mul, Nat.add_zero] at q'
        rw [show j - 1 + 1 = j by omega] at q'
        exact q'
      · intro a x hx
        obtain ⟨j, hj, rfl⟩ := List.mem_map.mp hx
        have hj' := List.mem_range.mp hj
        refine beq_iff_eq.mpr ?_
        simp only [Function.comp_def, Nat.succ_eq_add_one, Nat.zero_mul, Nat.add_zero]
        exact a (j + 1) (by omega) (by omega)
  have head : ((List.range rds).map fun j => (ds.drop (st + p + j * len)).take (m * k)).headD [] = (ds.drop (st + p)).take (m * k) := by
    cases rds with
    | zero => exact absurd h (Nat.not_succ_le_zero _)
    | succ r =>
      rw [List.range_succ_eq_map, List.map_cons]
      show (ds.drop (st + p + 0 * len)).take (m * k) = _
      rw [Nat.zero_mul, Nat.add_zero]
  have inner : ((List.range k).map fun j => (((ds.drop (st + p)).take (m * k)).drop (j * m)).take m) = roundsOf ds (st + p) m k := by
    unfold roundsOf
    refine List.map_congr_left fun j hj => ?_
    have hj' := List.mem_range.mp hj
    have h1 : (j + 1) * m ≤ k * m := Nat.mul_le_mul_right _ hj'
    rw [Nat.succ_mul, Nat.mul_comm k m] at h1
    show (((ds.drop (st + p)).take (m * k)).drop (j * m)).take m = _
    rw [List.drop_take, List.drop_drop, List.take_take, Nat.min_eq_left (by omega)]
  have def_ : Vamacb.innerAt (roundsOf ds st len rds) p m k = if (Vamacb.allSame ((List.range rds).map fun j => (ds.drop (st + p + j * len)).take (m * k)) && (((List.range rds).map fun j => (ds.drop (st + p + j * len)).take (m * k)).all fun x => x.length == m * k)) = true then some (roundsOf ds (st + p) m k) else none := by
    rw [← inner, ← head, ← parts]
    rfl
  rw [def_, hl, Bool.and_true]
  exact ⟨fun s => if_pos (hs.mpr s), fun s => if_neg fun z => s (hs.mp z)⟩
/-- the lengths and rounds of loops, as two loops go through them -/
def loopsBy (left : Nat) : List (Nat × Nat) := (List.range (left / 2)).flatMap fun i => (List.range (min 9 (left / (i + 1)) + 1 - 2)).map fun j => (i + 1, j + 2)
theorem loopsAt_by : ∀ n < 15, ∀ p < n + 1, Vamacb.loopsAt n p = loopsBy (n - p) := by decide +kernel
end Lf

set_option Elab.async false
set_option linter.all false
set_option maxRecDepth 100000
set_option maxHeartbeats 4000000
/-! # What is true of all that is found -/
namespace Lf
open VamacBase (Deed Prog)
open Vamacb (Folded Rounds)

theorem orElse_some {a b : Folded} {p : Prog} (h : (Vamacb.orElse a b).best = some p) : a.best = some p ∨ b.best = some p := by
  have h' : (match a.best, b.best with | none, y => y | x, none => x | some p, some q => if q.size < p.size then some q else some p) = some p := h
  cases ha : a.best with
  | none =>
    rw [ha] at h'
    exact .inr h'
  | some x =>
    cases hb : b.best with
    | none =>
      rw [ha, hb] at h'
      exact .inl h'
    | some y =>
      rw [ha, hb] at h'
      simp only [] at h'
      split at h'
      · exact .inr h'
      · exact .inl h'
theorem foldl_some {p : Prog} : ∀ (l : List Folded) (a : Folded), (l.foldl Vamacb.orElse a).best = some p → a.best = some p ∨ ∃ x ∈ l, x.best = some p
  | [], a, h => .inl h
  | x :: l, a, h => by
    rw [List.foldl_cons] at h
    rcases foldl_some l _ h with h | ⟨y, hy, h⟩
    · rcases orElse_some h with h | h
      · exact .inl h
      · exact .inr ⟨x, List.mem_cons_self .., h⟩
    · exact .inr ⟨y, List.mem_cons_of_mem _ hy, h⟩
theorem val_prop {f : Nat} {rs : Rounds} {n : Nat} {P : Prog → Nat → Prop} (h0 : P .done 0) (hc : ∀ left x p l, left + 1 ≤ n → x ∈ firstsOf f rs n (n - (left + 1)) → P p l → l + x.width = left + 1 → P (x.piece.cons p) (left + 1))
    (hw : ∀ left x, left + 1 ≤ n → x ∈ firstsOf f rs n (n - (left + 1)) → 1 ≤ x.width ∧ x.width ≤ left + 1) : ∀ m left, left ≤ m → left ≤ n → ∀ p, (valAt f rs n left).best = some p → P p left
  | _, 0, _, _, p, h => by
    cases h
    exact h0
  | 0, left + 1, h, _, _, _ => absurd h (Nat.not_succ_le_zero _)
  | m + 1, left + 1, hm, hn, p, h => by
    rw [val_succ (good_less f) hn] at h
    rcases foldl_some _ _ h with h | ⟨y, hy, h⟩
    · cases h
    · obtain ⟨x, hx, rfl⟩ := List.mem_map.mp hy
      have h' : (valAt f rs n (left + 1 - x.width)).best.map x.piece.cons = some p := h
      obtain ⟨q, hq, rfl⟩ := Option.map_eq_some_iff.mp h'
      obtain ⟨w1, w2⟩ := hw left x hn hx
      exact hc left x q _ hn hx (val_prop h0 hc hw m (left + 1 - x.width) (by omega) (by omega) q hq) (by omega)
theorem mem_firsts {f : Nat} {rs : Rounds} {n p : Nat} {x : First} (h : x ∈ firstsOf f rs n p) :
    (∃ d, Vamacb.deedAt rs p = some d ∧ x = ⟨1, .deed d.1 d.2, 1⟩) ∨ (∃ g m k i b, f = g + 1 ∧ (m, k) ∈ Vamacb.loopsAt n p ∧ Vamacb.innerAt rs p m k = some i ∧ (Vamacb.fold g i).best = some b ∧ x = ⟨(Vamacb.fold g i).count, .times k b, m * k⟩) := by
  have hd : ∀ x, x ∈ deedFirst rs p → ∃ d, Vamacb.deedAt rs p = some d ∧ x = ⟨1, .deed d.1 d.2, 1⟩ := fun x hx => by
    unfold deedFirst at hx
    split at hx
    · cases hx
    · rename_i d hd
      cases hx with
      | head => exact ⟨d, hd, rfl⟩
      | tail _ h => cases h
  cases f with
  | zero => exact .inl (hd x h)
  | succ g =>
    rcases List.mem_append.mp h with h | h
    · exact .inl (hd x h)
    · obtain ⟨z, hz, e⟩ := List.mem_filterMap.mp h
      unfold loopFirst at e
      split at e
      · cases e
      · rename_i i hi
        split at e
        · cases e
        · rename_i b hb
          cases e
          exact .inr ⟨g, z.1, z.2, i, b, rfl, hz, hi, hb, rfl⟩
theorem firsts_width {f : Nat} {rs : Rounds} {n left : Nat} {x : First} (hn : left + 1 ≤ n) (h : x ∈ firstsOf f rs n (n - (left + 1))) : 1 ≤ x.width ∧ x.width ≤ left + 1 := by
  rcases mem_firsts h with ⟨d, _, rfl⟩ | ⟨g, m, k, i, b, _, hz, _, _, rfl⟩
  · exact ⟨Nat.le_refl _, Nat.succ_le_succ (Nat.zero_le _)⟩
  · obtain ⟨l1, l2, _, l4⟩ := loops_in hz
    have hw : 2 * m ≤ m * k := by
      rw [Nat.mul_comm m k]
      exact Nat.mul_le_mul_right _ l2
    simp only at l1 l4 ⊢
    omega
theorem firsts_ways {f : Nat} {rs : Rounds} {n p : Nat} {x : First} (hn : n ≤ 14) (h : x ∈ firstsOf f rs n p) : x.ways ≠ 0 ∧ x.ways < 2 ^ 64 := by
  refine ⟨first_ways (good_less f) h, ?_⟩
  rcases mem_firsts h with ⟨d, _, rfl⟩ | ⟨g, m, k, i, b, _, hz, hi, _, rfl⟩
  · show 1 < 2 ^ 64
    decide
  · obtain ⟨l1, l2, _, l4⟩ := loops_in hz
    have hw : 2 * m ≤ m * k := by
      rw [Nat.mul_comm m k]
      exact Nat.mul_le_mul_right _ l2
    have hl := inner_len hi
    simp only at l1 l4
    have c := count_fold g i (by omega)
    show (Vamacb.fold g i).count < 2 ^ 64
    have e : 2 ^ (6 * (i.headD []).length) ≤ 2 ^ 42 := Nat.pow_le_pow_right (by decide) (by omega)
    have e2 : (2 : Nat) ^ 42 < 2 ^ 64 := by decide
    omega
/-- of the least folding: no more pieces than deeds, deeds and loops of rounds alone, no deeper than asked -/
theorem val_fine : ∀ (f : Nat) (rs : Rounds) (n left : Nat), left ≤ n → ∀ p, (valAt f rs n left).best = some p → p.size ≤ left ∧ Vamacb.isCounted p = true ∧ p.depth ≤ f := by
  intro f
  induction f with
  | zero =>
    intro rs n left hl p h
    refine val_prop (P := fun p l => p.size ≤ l ∧ Vamacb.isCounted p = true ∧ p.depth ≤ 0) ⟨Nat.le_refl _, rfl, Nat.le_refl _⟩ (fun left x p l hn hx hp hw => ?_) (fun left x hn hx => firsts_width hn hx) left left (Nat.le_refl _) hl p h
    rcases mem_firsts hx with ⟨d, _, rfl⟩ | ⟨g, m, k, i, b, e, _⟩
    · have hw' : l + 1 = left + 1 := hw
      exact ⟨by show p.size + 1 ≤ left + 1; omega, hp.2.1, hp.2.2⟩
    · cases e
  | succ f ih =>
    intro rs n left hl p h
    refine val_prop (P := fun p l => p.size ≤ l ∧ Vamacb.isCounted p = true ∧ p.depth ≤ f + 1) ⟨Nat.le_refl _, rfl, Nat.zero_le _⟩ (fun left x p l hn hx hp hw => ?_) (fun left x hn hx => firsts_width hn hx) left left (Nat.le_refl _) hl p h
    rcases mem_firsts hx with ⟨d, _, rfl⟩ | ⟨g, m, k, i, b, e, hz, hi, hb, rfl⟩
    · have hw' : l + 1 = left + 1 := hw
      exact ⟨by show p.size + 1 ≤ left + 1; omega, hp.2.1, hp.2.2⟩
    · cases e
      rw [fold_tab] at hb
      obtain ⟨b1, b2, b3⟩ := ih i _ _ (Nat.le_refl _) b hb
      have hil := inner_len hi
      obtain ⟨l1, l2, _, l4⟩ := loops_in hz
      have hw2 : 2 * m ≤ m * k := by
        rw [Nat.mul_comm m k]
        exact Nat.mul_le_mul_right _ l2
      simp only at l1 l4
      have hw' : l + m * k = left + 1 := hw
      refine ⟨?_, ?_, ?_⟩
      · show b.size + p.size + 1 ≤ left + 1
        have := hp.1
        omega
      · show (Vamacb.isCounted b && Vamacb.isCounted p) = true
        rw [b2, hp.2.1]
        rfl
      · show Nat.max (b.depth + 1) p.depth ≤ f + 1
        exact Nat.max_le.mpr ⟨Nat.succ_le_succ b3, hp.2.2⟩
theorem joined_take {fs : List First} {behind : Nat → Folded} {left i : Nat} {x : First} (h : fs[i]? = some x) : joined (fs.take (i + 1)) behind left = Vamacb.orElse (joined (fs.take i) behind left) (comb x (behind (left - x.width))) := by
  unfold joined
  rw [List.take_add_one, h, List.map_append, List.foldl_append]
  rfl
theorem good_joined {fs : List First} {behind : Nat → Folded} {left : Nat} (h : ∀ x ∈ fs, x.ways ≠ 0 ∧ Good (behind (left - x.width))) : Good (joined fs behind left) := by
  refine good_foldl _ _ good_nothing fun y hy => ?_
  obtain ⟨x, hx, rfl⟩ := List.mem_map.mp hy
  exact good_comb (h x hx).1 (h x hx).2
theorem pieces_le (p : Prog) : (pieces p).length ≤ p.size := by
  rw [size_pieces]
  omega
theorem size_cons (u : Piece) (p : Prog) : (u.cons p).size = u.inner + 1 + p.size := by
  cases u with
  | deed d s =>
    show p.size + 1 = 0 + 1 + p.size
    omega
  | times n b =>
    show b.size + p.size + 1 = b.size + 1 + p.size
    omega
  | toEnd b =>
    show b.size + p.size + 1 = b.size + 1 + p.size
    omega
  | when f v b =>
    show b.size + p.size + 1 = b.size + 1 + p.size
    omega
/-- loops as first pieces, in their order; none where no loop is allowed -/
def loopFirsts : Nat → Rounds → Nat → Nat → List First
  | 0, _, _, _ => []
  | f + 1, rs, n, p => (Vamacb.loopsAt n p).filterMap (loopFirst f rs p)
theorem firsts_split (f : Nat) (rs : Rounds) (n p : Nat) : firstsOf f rs n p = deedFirst rs p ++ loopFirsts f rs n p := by
  cases f with
  | zero => exact (List.append_nil _).symm
  | succ f => rfl
end Lf

set_option Elab.async false
set_option linter.all false
set_option maxRecDepth 100000
set_option maxHeartbeats 4000000
/-! # The least folding tells the deeds; a run of it does them straight -/
namespace Lf
open VamacBase (Deed Prog Run Table)
open Vamacb (Folded Rounds)

def doAll (ds : List Deed) (x : Run) : Run := ds.foldl VamacBase.doDeed x
theorem doAll_append (a b : List Deed) (x : Run) : doAll (a ++ b) x = doAll b (doAll a x) := List.foldl_append
theorem run_rounds {body : Nat → Run → Run} {f : Nat → List Deed} (h : ∀ i x, body i x = doAll (f i) x) : ∀ n i x, VamacBase.rounds body n i x = doAll (Vamacb.unrollRounds f n i) x
  | 0, _, _ => rfl
  | n + 1, i, x => by
    rw [VamacBase.rounds, Vamacb.unrollRounds, doAll_append, ← h, run_rounds h n]
theorem run_counted : ∀ (p : Prog) (i : Nat) (x : Run), Vamacb.isCounted p = true → VamacBase.runFrom p i x = doAll (Vamacb.unrollFrom p i) x
  | .done, _, _, _ => rfl
  | .deed d s r, i, x, h => by
    rw [VamacBase.runFrom, Vamacb.unrollFrom, run_counted r i _ h]
    rfl
  | .times n b r, i, x, h => by
    have h' : (Vamacb.isCounted b && Vamacb.isCounted r) = true := h
    rw [Bool.and_eq_true] at h'
    rw [VamacBase.runFrom, Vamacb.unrollFrom, doAll_append, run_counted r i _ h'.2, run_rounds (fun i x => run_counted b i x h'.1) n 0 x]
  | .toEnd _ _, _, _, h => by cases h
  | .when _ _ _ _, _, _, h => by cases h

/-! ### what the pieces tell -/
theorem step_tells {a : Deed} {l : List Deed} {s : Int} (h : Vamacb.stepOf (a :: l) = some s) {i : Nat} {d : Deed} (hd : (a :: l)[i]? = some d) : d = VamacBase.withNumber (VamacBase.numberOf a + s * (i : Int)) a := by
  cases l with
  | nil =>
    cases i with
    | zero =>
      have e : d = a := by simpa using hd.symm
      have e2 : s = 0 := by
        have : some (0 : Int) = some s := h
        simpa using this.symm
      subst e e2
      rw [show ((0 : Nat) : Int) = 0 from rfl, Int.mul_zero, Int.add_zero]
      exact (withNumber_self _).symm
    | succ i => simp at hd
  | cons b l =>
    unfold Vamacb.stepOf at h
    simp only at h
    split at h
    · rename_i c
      rw [Bool.and_eq_true] at c
      have e : VamacBase.numberOf b - VamacBase.numberOf a = s := Option.some.inj h
      have c2 := List.all_eq_true.mp c.2 (d, i) (by
        rw [List.mem_zipIdx_iff_getElem?]
        exact hd)
      rw [e] at c2
      simpa using c2
    · cases h
theorem column_get {rs : Rounds} {n q : Nat} (hn : ∀ r ∈ rs, r.length = n) (hq : q < n) : Vamacb.column rs q = rs.map fun r => r[q]?.getD .down := by
  unfold Vamacb.column
  refine filterMap_all fun r hr => ?_
  rw [List.getElem?_eq_getElem (by rw [hn r hr]; exact hq)]
  rfl
theorem deed_tells {rs : Rounds} {n q : Nat} {d : Deed × Int} (hn : ∀ r ∈ rs, r.length = n) (hq : q < n) (h : Vamacb.deedAt rs q = some d) {i : Nat} {r : List Deed} (hr : rs[i]? = some r) : r[q]? = some (VamacBase.withNumber (VamacBase.numberOf d.1 + d.2 * (i : Int)) d.1) := by
  have hc := column_get hn hq
  have hl : (Vamacb.column rs q)[i]? = some (r[q]?.getD .down) := by
    rw [hc, List.getElem?_map, hr]
    rfl
  have e : r[q]? = some (r[q]?.getD .down) := by
    rw [List.getElem?_eq_getElem (by rw [hn r (List.mem_of_getElem? hr)]; exact hq)]
    rfl
  unfold Vamacb.deedAt at h
  split at h
  · cases h
  · rename_i a l hcol
    rw [hcol] at hl
    obtain ⟨s, hs, rfl⟩ := Option.map_eq_some_iff.mp h
    rw [e]
    exact congrArg some (step_tells hs hl)
theorem rounds_join {F : Nat → List Deed} {h : List Deed} {m : Nat} : ∀ (k i : Nat), (∀ j, i ≤ j → j < i + k → F j = (h.drop (j * m)).take m) → Vamacb.unrollRounds F k i = (h.drop (i * m)).take (k * m)
  | 0, i, _ => by
    rw [Nat.zero_mul, List.take_zero]
    rfl
  | k + 1, i, hF => by
    rw [Vamacb.unrollRounds, rounds_join k (i + 1) (fun j h1 h2 => hF j (by omega) (by omega)), hF i (Nat.le_refl _) (by omega), Nat.succ_mul k m, Nat.add_comm (k * m) m, List.take_add, List.drop_drop]
    congr 3
    rw [Nat.succ_mul]
theorem inner_parts {rs inner : Rounds} {q m k : Nat} (h : Vamacb.innerAt rs q m k = some inner) : ∃ hd : List Deed, hd.length = m * k ∧ (∀ r ∈ rs, (r.drop q).take (m * k) = hd) ∧ inner = (List.range k).map fun j => (hd.drop (j * m)).take m := by
  unfold Vamacb.innerAt at h
  simp only at h
  split at h
  · rename_i c
    rw [Bool.and_eq_true] at c
    cases rs with
    | nil =>
      have c1 := c.1
      cases c1
    | cons r0 rt =>
      refine ⟨(r0.drop q).take (m * k), ?_, fun r hr => ?_, ?_⟩
      · have := List.all_eq_true.mp c.2 ((r0.drop q).take (m * k)) (List.mem_map.mpr ⟨r0, List.mem_cons_self .., rfl⟩)
        simpa using this
      · rcases List.mem_cons.mp hr with rfl | hr
        · rfl
        · have c1 : ((rt.map fun r => (r.drop q).take (m * k)).all fun b => b == (r0.drop q).take (m * k)) = true := c.1
          have := List.all_eq_true.mp c1 ((r.drop q).take (m * k)) (List.mem_map.mpr ⟨r, hr, rfl⟩)
          exact eq_of_beq this
      · exact (Option.some.inj h).symm
  · cases h
theorem val_tells : ∀ (f : Nat) (rs : Rounds) (n left : Nat), left ≤ n → (∀ r ∈ rs, r.length = n) → ∀ p, (valAt f rs n left).best = some p → ∀ (i : Nat) (r : List Deed), rs[i]? = some r → Vamacb.unrollFrom p i = r.drop (n - left) := by
  intro f
  induction f with
  | zero =>
    intro rs n left hl hn p h
    refine val_prop (P := fun p l => ∀ (i : Nat) (r : List Deed), rs[i]? = some r → Vamacb.unrollFrom p i = r.drop (n - l)) (fun i r hr => ?_) (fun left x p l hn' hx hp hw => ?_) (fun left x hn hx => firsts_width hn hx) left left (Nat.le_refl _) hl p h
    · rw [Nat.sub_zero, ← hn r (List.mem_of_getElem? hr), List.drop_length]
      rfl
    · rcases mem_firsts hx with ⟨d, hd, rfl⟩ | ⟨g, m, k, ii, b, e, _⟩
      · intro i r hr
        have hw' : l + 1 = left + 1 := hw
        have hq := deed_tells hn (q := n - (left + 1)) (by omega) hd hr
        show _ :: Vamacb.unrollFrom p i = _
        rw [hp i r hr, show n - l = n - (left + 1) + 1 by omega]
        obtain ⟨h1, h2⟩ := List.getElem?_eq_some_iff.mp hq
        rw [List.drop_eq_getElem_cons h1, h2]
      · cases e
  | succ f ih =>
    intro rs n left hl hn p h
    refine val_prop (P := fun p l => ∀ (i : Nat) (r : List Deed), rs[i]? = some r → Vamacb.unrollFrom p i = r.drop (n - l)) (fun i r hr => ?_) (fun left x p l hn' hx hp hw => ?_) (fun left x hn hx => firsts_width hn hx) left left (Nat.le_refl _) hl p h
    · rw [Nat.sub_zero, ← hn r (List.mem_of_getElem? hr), List.drop_length]
      rfl
    · rcases mem_firsts hx with ⟨d, hd, rfl⟩ | ⟨g, m, k, inner, b, e, hz, hi, hb, rfl⟩
      · intro i r hr
        have hw' : l + 1 = left + 1 := hw
        have hq := deed_tells hn (q := n - (left + 1)) (by omega) hd hr
        show _ :: Vamacb.unrollFrom p i = _
        rw [hp i r hr, show n - l = n - (left + 1) + 1 by omega]
        obtain ⟨h1, h2⟩ := List.getElem?_eq_some_iff.mp hq
        rw [List.drop_eq_getElem_cons h1, h2]
      · cases e
        intro i r hr
        have hw' : l + m * k = left + 1 := hw
        obtain ⟨hd, hdl, hpart, rfl⟩ := inner_parts hi
        obtain ⟨l1, l2, _, l4⟩ := loops_in hz
        simp only at l1 l2 l4
        have hil : ∀ r ∈ ((List.range k).map fun j => (hd.drop (j * m)).take m), r.length = m := fun r hr => by
          obtain ⟨j, hj, rfl⟩ := List.mem_map.mp hr
          have hj' := List.mem_range.mp hj
          have : (j + 1) * m ≤ k * m := Nat.mul_le_mul_right _ hj'
          rw [Nat.succ_mul] at this
          rw [List.length_take, List.length_drop, hdl, Nat.mul_comm m k]
          omega
        have hhead : ((((List.range k).map fun j => (hd.drop (j * m)).take m) : Rounds).headD []).length = m := by
          cases k with
          | zero => omega
          | succ k =>
            rw [List.range_succ_eq_map, List.map_cons]
            exact hil _ (by rw [List.range_succ_eq_map, List.map_cons]; exact List.mem_cons_self ..)
        rw [fold_tab, hhead] at hb
        have key := ih _ m m (Nat.le_refl _) hil b hb
        show Vamacb.unrollRounds (Vamacb.unrollFrom b) k 0 ++ Vamacb.unrollFrom p i = _
        rw [rounds_join (h := hd) (m := m) k 0 (fun j _ hj => by
          have hj' : j < k := by omega
          rw [key j ((hd.drop (j * m)).take m) (by rw [List.getElem?_map, List.getElem?_range hj']; rfl), Nat.sub_self]
          rfl), hp i r hr, Nat.zero_mul, List.drop_zero, List.take_of_length_le (by rw [hdl, Nat.mul_comm]; exact Nat.le_refl _), ← hpart r (List.mem_of_getElem? hr)]
        rw [show n - l = n - (left + 1) + m * k by omega, ← List.drop_drop, List.take_append_drop]
/-! ### there is always one of a row alone -/
theorem orElse_has {a b : Folded} (h : a.best.isSome = true ∨ b.best.isSome = true) : (Vamacb.orElse a b).best.isSome = true := by
  show (match a.best, b.best with | none, y => y | x, none => x | some p, some q => if q.size < p.size then some q else some p).isSome = true
  cases ha : a.best with
  | none =>
    rcases h with h | h
    · rw [ha] at h
      cases h
    · exact h
  | some x =>
    cases hb : b.best with
    | none => rfl
    | some y =>
      simp only []
      split <;> rfl
theorem foldl_has : ∀ (l : List Folded) (a : Folded), (a.best.isSome = true ∨ ∃ x ∈ l, x.best.isSome = true) → (l.foldl Vamacb.orElse a).best.isSome = true
  | [], a, h => by
    rcases h with h | ⟨x, hx, _⟩
    · exact h
    · cases hx
  | x :: l, a, h => by
    rw [List.foldl_cons]
    refine foldl_has l _ ?_
    rcases h with h | ⟨y, hy, h⟩
    · exact .inl (orElse_has (.inl h))
    · rcases List.mem_cons.mp hy with rfl | hy
      · exact .inl (orElse_has (.inr h))
      · exact .inr ⟨y, hy, h⟩
theorem val_has (f : Nat) (ds : List Deed) : ∀ left, left ≤ ds.length → (valAt f [ds] ds.length left).best.isSome = true
  | 0, _ => rfl
  | left + 1, h => by
    rw [val_succ (good_less f) h]
    have hq : ds.length - (left + 1) < ds.length := by omega
    have hd : Vamacb.deedAt [ds] (ds.length - (left + 1)) = some (ds[ds.length - (left + 1)], 0) := by
      have hc : Vamacb.column [ds] (ds.length - (left + 1)) = [ds[ds.length - (left + 1)]] := by
        rw [column_get (n := ds.length) (fun r hr => by
          rcases List.mem_cons.mp hr with rfl | hr
          · rfl
          · cases hr) hq, List.map_cons, List.map_nil, List.getElem?_eq_getElem hq]
        rfl
      unfold Vamacb.deedAt
      rw [hc]
      rfl
    have hm : (⟨1, .deed ds[ds.length - (left + 1)] 0, 1⟩ : First) ∈ firstsOf f [ds] ds.length (ds.length - (left + 1)) := by
      rw [firsts_split]
      refine List.mem_append_left _ ?_
      unfold deedFirst
      rw [hd]
      exact List.mem_cons_self ..
    refine foldl_has _ _ (.inr ⟨_, List.mem_map.mpr ⟨_, hm, rfl⟩, ?_⟩)
    show ((valAt f [ds] ds.length (left + 1 - 1)).best.map _).isSome = true
    rw [Option.isSome_map]
    exact val_has f ds left (by omega)
theorem least_tells (ds : List Deed) : Vamacb.unroll (Vamacb.leastOf ds) = ds ∧ Vamacb.isCounted (Vamacb.leastOf ds) = true := by
  have e : Vamacb.foldings ds = valAt 2 [ds] ds.length ds.length := fold_tab 2 [ds]
  have hs := val_has 2 ds ds.length (Nat.le_refl _)
  rw [← e] at hs
  obtain ⟨p, hp⟩ := Option.isSome_iff_exists.mp hs
  have el : Vamacb.leastOf ds = p := by
    unfold Vamacb.leastOf
    rw [hp]
    rfl
  rw [el]
  rw [e] at hp
  refine ⟨?_, (val_fine 2 [ds] _ _ (Nat.le_refl _) p hp).2.1⟩
  have := val_tells 2 [ds] ds.length ds.length (Nat.le_refl _) (fun r hr => by
    rcases List.mem_cons.mp hr with rfl | hr
    · rfl
    · cases hr) p hp 0 ds rfl
  rw [Nat.sub_self] at this
  exact this
theorem run_least (ds : List Deed) (t : Table) : VamacBase.run (Vamacb.leastOf ds) t = doAll ds (VamacBase.begin_ t) := by
  unfold VamacBase.run
  rw [run_counted _ _ _ (least_tells ds).2]
  exact congrArg (fun l => doAll l _) (least_tells ds).1
end Lf

set_option Elab.async false
set_option linter.all false
set_option maxRecDepth 100000
set_option maxHeartbeats 4000000
/-! # Loops of plain deeds -/
namespace Lf
open VamacBase (Deed Prog)
open Vamacb (Folded Rounds)

theorem val0_count (rs : Rounds) (n : Nat) : ∀ left, left ≤ n → ((valAt 0 rs n left).count ≠ 0 ↔ ∀ q, n - left ≤ q → q < n → deedFirst rs q ≠ [])
  | 0, h => ⟨fun _ q h1 h2 => absurd h2 (by omega), fun _ => by rw [val_zero]; exact Nat.one_ne_zero⟩
  | left + 1, h => by
    have ih := val0_count rs n left (by omega)
    rw [val_succ (good_less 0) h]
    show (joined (deedFirst rs (n - (left + 1))) (valAt 0 rs n) (left + 1)).count ≠ 0 ↔ _
    cases hd : Vamacb.deedAt rs (n - (left + 1)) with
    | none =>
      have e : deedFirst rs (n - (left + 1)) = [] := by
        unfold deedFirst
        rw [hd]
      rw [e]
      exact ⟨fun z => absurd rfl z, fun z => absurd e (z _ (Nat.le_refl _) (by omega))⟩
    | some d =>
      have e : deedFirst rs (n - (left + 1)) = [⟨1, .deed d.1 d.2, 1⟩] := by
        unfold deedFirst
        rw [hd]
      have ec : (joined (deedFirst rs (n - (left + 1))) (valAt 0 rs n) (left + 1)).count = (valAt 0 rs n left).count := by
        rw [e]
        show 0 + 1 * (valAt 0 rs n (left + 1 - 1)).count = _
        rw [Nat.zero_add, Nat.one_mul, Nat.add_sub_cancel]
      rw [ec, ih]
      refine ⟨fun z q h1 h2 => ?_, fun z q h1 h2 => z q (by omega) h2⟩
      by_cases c : q = n - (left + 1)
      · rw [c, e]
        exact List.cons_ne_nil _ _
      · exact z q (by omega) h2
/-- a loop of so many rounds, so long, from a place on -/
def fitP (ds : List Deed) (p m k : Nat) : Prop := (Vamacb.fold 0 (roundsOf ds p m k)).count ≠ 0
theorem fitP_iff {ds : List Deed} {p m k : Nat} (h1 : 1 ≤ k) (hf : p + k * m ≤ ds.length) : fitP ds p m k ↔ ∀ q, q < m → deedFirst (roundsOf ds p m k) q ≠ [] := by
  unfold fitP
  rw [fold_tab, rounds_head h1 hf, val0_count _ _ _ (Nat.le_refl _), Nat.sub_self]
  exact ⟨fun z q hq => z q (Nat.zero_le _) hq, fun z q _ hq => z q hq⟩
def colOf (ds : List Deed) (p m q j : Nat) : Deed := ds[p + q + j * m]?.getD .down
theorem col_get {ds : List Deed} {p m k q : Nat} (hf : p + k * m ≤ ds.length) (hq : q < m) : ∀ j < k, ds[p + q + j * m]? = some (colOf ds p m q j) := fun j hj => by
  have := mul_fit (p := q + 1) hf hj hq
  unfold colOf
  rw [List.getElem?_eq_getElem (by omega)]
  rfl
theorem fitP_cols {ds : List Deed} {p m k : Nat} (h1 : 1 ≤ k) (hf : p + k * m ≤ ds.length) : fitP ds p m k ↔ ∀ q, q < m → fitsIn (colOf ds p m q) k := by
  rw [fitP_iff h1 hf]
  refine ⟨fun z q hq => ?_, fun z q hq => ?_⟩
  · obtain ⟨d1, d2⟩ := deedFirst_eq h1 hq (col_get hf hq)
    by_cases c : fitsIn (colOf ds p m q) k
    · exact c
    · exact absurd (d2 c) (z q hq)
  · obtain ⟨d1, d2⟩ := deedFirst_eq h1 hq (col_get hf hq)
    rw [d1 (z q hq)]
    exact List.cons_ne_nil _ _
theorem fitP_less {ds : List Deed} {p m a : Nat} (ha : 2 ≤ a) (hf : p + (a + 1) * m ≤ ds.length) (h : fitP ds p m (a + 1)) : fitP ds p m a := by
  have hf' : p + a * m ≤ ds.length := by
    rw [Nat.succ_mul] at hf
    omega
  rw [fitP_cols (by omega) hf] at h
  rw [fitP_cols (by omega) hf']
  intro q hq
  obtain ⟨z1, z2⟩ := h q hq
  have e : stepIn (colOf ds p m q) a = stepIn (colOf ds p m q) (a + 1) := by
    unfold stepIn
    rw [if_neg (by omega), if_neg (by omega)]
  rw [fitsIn, e]
  exact ⟨z1, fun j j1 j2 => z2 j j1 (by omega)⟩
theorem fitP_down {ds : List Deed} {p m a : Nat} (ha : 2 ≤ a) : ∀ b, p + (a + b) * m ≤ ds.length → fitP ds p m (a + b) → fitP ds p m a
  | 0, _, h => h
  | b + 1, hf, h => by
    have hf2 : p + (a + b) * m ≤ ds.length := by
      have : (a + (b + 1)) * m = (a + b) * m + m := by rw [← Nat.add_assoc, Nat.succ_mul]
      omega
    exact fitP_down ha b hf2 (fitP_less (by omega) hf h)
/-- what the document asks of a loop -/
def fitB (l : List Deed) (p m k : Nat) : Bool := match Vamacb.innerAt [l] p m k with
  | none => false
  | some rs => (List.range m).all fun j => (Vamacb.deedAt rs j).isSome
theorem first_some (rs : Rounds) (q : Nat) : (Vamacb.deedAt rs q).isSome = true ↔ deedFirst rs q ≠ [] := by
  unfold deedFirst
  cases Vamacb.deedAt rs q with
  | none => exact ⟨fun z => Bool.noConfusion z, fun z => absurd rfl z⟩
  | some d => exact ⟨fun _ => List.cons_ne_nil _ _, fun _ => rfl⟩
theorem fitB_in {l : List Deed} {p m k : Nat} (h1 : 1 ≤ k) (hf : p + k * m ≤ l.length) : fitB l p m k = true ↔ fitP l p m k := by
  have e : Vamacb.innerAt [l] p m k = some (roundsOf l p m k) := by
    have := (innerAt_eq (ds := l) (st := 0) (len := l.length) (rds := 1) (p := p) (m := m) (k := k) (Nat.le_refl _) (by omega) (by rw [Nat.mul_comm]; exact hf)).1 (fun j j1 j2 => absurd j2 (by omega))
    rw [rounds_one, Nat.zero_add] at this
    exact this
  unfold fitB
  rw [e, fitP_iff h1 hf]
  simp only []
  rw [List.all_eq_true]
  exact ⟨fun z q hq => (first_some _ _).mp (z q (List.mem_range.mpr hq)), fun z q hq => (first_some _ _).mpr (z q (List.mem_range.mp hq))⟩
theorem fitB_out {l : List Deed} {p m k : Nat} (h0 : 0 < m * k) (hf : l.length < p + m * k) : fitB l p m k = false := by
  have e : Vamacb.innerAt [l] p m k = none := by
    unfold Vamacb.innerAt
    simp only [List.map_cons, List.map_nil]
    rw [if_neg]
    intro z
    rw [Bool.and_eq_true] at z
    have := List.all_eq_true.mp z.2 _ (List.mem_cons_self ..)
    have e2 := eq_of_beq this
    rw [List.length_take, List.length_drop] at e2
    omega
  unfold fitB
  rw [e]
def oneL (l : List Deed) (p m : Nat) : Option (Nat × Nat × Nat) := ((((List.range (VamacBase.TIMES + 1)).drop 2).filter fun k => fitB l p m k).getLast?).map fun k => (p, m, k)
theorem loops_def (l : List Deed) : Vamacb.loopsOf l = (List.range l.length).flatMap fun p => ((List.range (l.length + 1)).drop 1).filterMap (oneL l p) := rfl
/-- the most rounds, as the program looks for them -/
structure Most (ds : List Deed) (p m r : Nat) : Prop where
  one : 1 ≤ r
  nine : r ≤ 9
  fits : ∀ k, 2 ≤ k → k ≤ r → fitP ds p m k
  most : r * m ≤ ds.length - p
  next : r < 9 → (r + 1) * m ≤ ds.length - p → ¬ fitP ds p m (r + 1)
theorem most_one {ds : List Deed} {p m r : Nat} (hp : p ≤ ds.length) (hm : 1 ≤ m) (h : Most ds p m r) : oneL ds p m = if 1 < r then some (p, m, r) else none := by
  have key : ∀ k ∈ (List.range (VamacBase.TIMES + 1)).drop 2, fitB ds p m k = decide (k ≤ r) := fun k hk => by
    have hk2 : 2 ≤ k ∧ k ≤ 9 := by
      have e : (List.range (VamacBase.TIMES + 1)).drop 2 = [2, 3, 4, 5, 6, 7, 8, 9] := by decide
      rw [e] at hk
      simp at hk
      omega
    by_cases c : k ≤ r
    · rw [decide_eq_true c]
      have hle : k * m ≤ r * m := Nat.mul_le_mul_right _ c
      have := h.most
      exact (fitB_in (by omega) (by omega)).mpr (h.fits k hk2.1 c)
    · rw [decide_eq_false c]
      by_cases c2 : k * m ≤ ds.length - p
      · obtain ⟨b, rfl⟩ : ∃ b, k = (r + 1) + b := ⟨k - (r + 1), by omega⟩
        have hle : (r + 1) * m ≤ (r + 1 + b) * m := Nat.mul_le_mul_right _ (by omega)
        have nf := h.next (by omega) (by omega)
        have h1 := h.one
        cases q : fitB ds p m (r + 1 + b) with
        | false => rfl
        | true =>
          have fp := (fitB_in (by omega) (by omega)).mp q
          exact absurd (fitP_down (by omega) b (by omega) fp) nf
      · refine fitB_out (Nat.mul_pos hm (by omega)) ?_
        rw [Nat.mul_comm m k]
        omega
  unfold oneL
  rw [List.filter_congr key]
  have h1 := h.one
  have h9 := h.nine
  have e : r = 1 ∨ r = 2 ∨ r = 3 ∨ r = 4 ∨ r = 5 ∨ r = 6 ∨ r = 7 ∨ r = 8 ∨ r = 9 := by omega
  rcases e with rfl | rfl | rfl | rfl | rfl | rfl | rfl | rfl | rfl <;> rfl
theorem one_long {ds : List Deed} {p m : Nat} (hp : p ≤ ds.length) (hm : ds.length - p < 2 * m) : oneL ds p m = none := by
  have key : ∀ k ∈ (List.range (VamacBase.TIMES + 1)).drop 2, fitB ds p m k = false := fun k hk => by
    have hk2 : 2 ≤ k := by
      have e : (List.range (VamacBase.TIMES + 1)).drop 2 = [2, 3, 4, 5, 6, 7, 8, 9] := by decide
      rw [e] at hk
      simp at hk
      omega
    have hle : 2 * m ≤ m * k := by
      rw [Nat.mul_comm m k]
      exact Nat.mul_le_mul_right _ hk2
    exact fitB_out (by omega) (by omega)
  unfold oneL
  rw [List.filter_eq_nil_iff.mpr (fun k hk => by rw [key k hk]; exact Bool.false_ne_true)]
  rfl
/-- the loops from a place on, as the program goes through them -/
def loopRow (ds : List Deed) (p : Nat) : List (Nat × Nat × Nat) := (List.range ((ds.length - p) / 2)).filterMap fun i => oneL ds p (i + 1)
theorem range_drop (n : Nat) : (List.range (n + 1)).drop 1 = (List.range n).map (· + 1) := by
  rw [List.range_succ_eq_map]
  rfl
theorem loops_rows (ds : List Deed) : Vamacb.loopsOf ds = (List.range ds.length).flatMap (loopRow ds) := by
  rw [loops_def, List.flatMap_def, List.flatMap_def]
  congr 1
  refine List.map_congr_left fun p hp => ?_
  have hp' := List.mem_range.mp hp
  rw [range_drop, List.filterMap_map]
  unfold loopRow
  obtain ⟨b, hb⟩ : ∃ b, ds.length = (ds.length - p) / 2 + b := ⟨ds.length - (ds.length - p) / 2, by omega⟩
  have e : List.range ds.length = List.range ((ds.length - p) / 2) ++ (List.range b).map (fun x => (ds.length - p) / 2 + x) := by
    rw [← List.range_add, ← hb]
  rw [e, List.filterMap_append, List.filterMap_map]
  have nil : (List.range b).filterMap ((oneL ds p ∘ (· + 1)) ∘ fun x => (ds.length - p) / 2 + x) = [] := by
    rw [List.filterMap_eq_nil_iff]
    intro x _
    exact one_long (by omega) (by show ds.length - p < 2 * ((ds.length - p) / 2 + x + 1); omega)
  rw [nil, List.append_nil]
  rfl
theorem loopRow_take (ds : List Deed) (p i : Nat) : (List.range (i + 1)).filterMap (fun i => oneL ds p (i + 1)) = (List.range i).filterMap (fun i => oneL ds p (i + 1)) ++ (oneL ds p (i + 1)).toList := by
  rw [List.range_succ, List.filterMap_append]
  congr 1
theorem loopRows_len (ds : List Deed) : ∀ p i, ((List.range p).flatMap (loopRow ds)).length ≤ p * ds.length ∧ ((List.range i).filterMap fun i => oneL ds p (i + 1)).length ≤ i := by
  intro p i
  refine ⟨?_, ?_⟩
  · induction p with
    | zero => exact Nat.zero_le _
    | succ p ih =>
      rw [List.range_succ, List.flatMap_append, List.length_append, List.flatMap_cons, List.flatMap_nil, List.append_nil, Nat.succ_mul]
      have : (loopRow ds p).length ≤ (ds.length - p) / 2 := by
        unfold loopRow
        exact Nat.le_trans (List.length_filterMap_le _ _) (by rw [List.length_range]; exact Nat.le_refl _)
      omega
  · exact Nat.le_trans (List.length_filterMap_le _ _) (by rw [List.length_range]; exact Nat.le_refl _)
end Lf

set_option Elab.async false
set_option linter.all false
set_option maxRecDepth 100000
set_option maxHeartbeats 4000000
/-! # Words that the layer lacks -/
namespace Lf
open PySem PySem.Spec PyProof.Rows L2

section
variable {X : Cx} {B initId newId : String} {bmB : List Value} {C : Addr}
/-- X(): an own error without arguments -/
theorem pmk_own0 {x : Str} {p pos : Pos} (F : ExcBaseFacts B newId initId bmB) (q : PySem.W.excIn X.K C bmB newId = true) (gC : X.mg x = some (.ref C)) (kC : PySem.W.keepIn X.K (.ref C) = true) (r : Raises X (.ref C)) (hg : Gl X x)
    (hdb : (x == ("__debug__" : Str)) = false := by decide) : PMk X (.Call (.Name x p) [] [] pos) (fun _ H Q => Q (.ref C) none H) := by
  intro pins s σ H Q I h
  refine wpAny_Call_Name_kw ?_
  refine ld_glob I hg gC ?_ hdb
  refine PySem.W.callWith_K0 (first := []) I.kIn kC ?_
  show wpAny _ _ (call (.ref C) []) _ _ _
  obtain ⟨bm, N, nm, qn, bs, hdct, sn, sub, ab, col, dd, k0, k1, k2, k3, k5, mN, hC, hN, hni, T⟩ := exc_obj I.kIn q
  refine wpAny_call_exc_subT F T hC hN hni (fun h' e hm => ?_) (Nat.zero_le _)
  exact mk_of I hm r h (I.hok.gone hm.new)

/-- list.extend of a tuple, whatever else the tuple's object holds -/
theorem extend_tuple (l : Addr) (items : Array Value) (n : Nat) (b : Addr) (items2 : Array Value) (n2 : Nat) (dd : Option Addr) (sl : Array (Option Value)) (hs0 : ¬(!items.isEmpty && Builtin.List.listTooLong (items.size + items2.size)) = true) (hs1 : items.size ≤ sizeLine) (hs2 : items.size + items2.size ≤ sizeLine + 1) :
    Meets (Builtin.«list.extend» ⟨[.ref l, .ref b], []⟩) (fun _ R s => s.heap.get? l = some { cls := .type "list", dict := none, data := .seq items n, slots := #[] } ∧ s.heap.get? b = some { cls := .type "tuple", dict := dd, data := .seq items2 n2, slots := sl } ∧ R (.ok (.ret Value.none)) { s with heap := s.heap.update l (Obj.mapSeq fun x => x ++ items2), toks := s.toks }) :=
  .of_wp fun _ _ _ R s h => by
    obtain ⟨hp, g, d, tk, os⟩ := s; obtain ⟨hl, hb, h⟩ := h; have f1 := AutoSeq1.idx_int; have f2 := AutoSeq1.sub_tuple_tuple; have f3 := AutoSeq1.sub_list_list; have f4 := AutoSeq1.sub_tuple_list; have f5 := AutoSeq1.sub_list_tuple
    have room : (items ++ items2).size ≤ sizeLine + 1 := Array.size_append ▸ hs2
    wp_walk using (wpAny_updateSeq hl rfl (hz := hs1) (_hz' := room)), AutoSeq1.wpAny_loadPart' hl, AutoSeq1.wpAny_loadPart' hb; exact ⟨_, rfl, h⟩
def rExtendT (K : PySem.W.Frag) : V → List V → Hp → VK → Prop := fun x vs H Q => ∃ l b xs zs, x = .ref l ∧ vs = [.ref b] ∧ H l = some (.lst xs) ∧ SqT K H b zs ∧ xs.length + zs.length ≤ sizeLine ∧ Q .non (upd H l (.lst (xs ++ zs)))
theorem mt_extendT : MtM X "list.extend" (rExtendT X.K) := by
  intro pins st sg H x vs v us Q I rx rv ask
  obtain ⟨l, tp, xs, zs, rfl, rfl, hl, ht, few, q⟩ := ask
  cases rx
  obtain ⟨u, rfl, ru⟩ := rv.one
  cases ru
  obtain ⟨_, old, n, r1, hlen, e1⟩ := I.lstM hl
  obtain ⟨new, r2, ⟨o2, e2, hc2, n2, hd2⟩, _⟩ := I.tuple ht
  obtain ⟨oc, od, oda, osl⟩ := o2
  have hc : oc = .type "tuple" := hc2
  have hd : oda = .seq new.toArray n2 := hd2
  subst hc hd
  have hnew := r2.length
  have fits : old.toArray.size + new.toArray.size ≤ sizeLine := by
    rw [List.size_toArray, List.size_toArray]
    omega
  have short : ¬ (!old.toArray.isEmpty && Builtin.List.listTooLong (old.toArray.size + new.toArray.size)) = true := by
    rw [notLongL fits]
    simp
  have body := extend_tuple l old.toArray n tp new.toArray n2 od osl short (by rw [List.size_toArray]; omega) (by omega)
  refine call_meets F.slot_list_extend ⟨_, e1, rfl⟩ F.entry_list_extend (F.args_list_extend_2 _ _) body ⟨e1, e2, .non, _, I.lset (its' := old ++ new) hl e1 (by simp) (r1.append r2) ?_, rfl, q⟩
  rw [List.length_append]
  omega
end

/-- an if whose test is known -/
theorem if_true_of {c : Bool} {A B : Prop} (hc : c = true) (h : A) : if c = true then A else B := by
  rw [if_pos hc]
  exact h
theorem if_false_of {c : Bool} {A B : Prop} (hc : c = false) (h : B) : if c = true then A else B := by
  rw [hc, if_neg Bool.false_ne_true]
  exact h
theorem if_dec {c A B : Prop} [Decidable c] (h1 : c → A) (h2 : ¬ c → B) : if (decide c) = true then A else B := by
  by_cases h : c
  · exact if_true_of (decide_eq_true h) (h1 h)
  · exact if_false_of (decide_eq_false h) (h2 h)
theorem lk_here {k : Str} {v : V} {r : List (Str × V)} : List.lookup k ((k, v) :: r) = some v := by
  have e : (k == k) = true := beq_self_eq_true k
  simp only [List.lookup, e]
theorem lk_past {k g : Str} {v : V} {r : List (Str × V)} (h : (k == g) = false) : List.lookup k ((g, v) :: r) = List.lookup k r := by
  simp only [List.lookup, h]
theorem put_here {f : Str} {v x : V} {r : List (Str × V)} : putF f v ((f, x) :: r) = (f, v) :: r := if_pos rfl
theorem put_past {f g : Str} {v x : V} {r : List (Str × V)} (h : ¬ g = f) : putF f v ((g, x) :: r) = (g, x) :: putF f v r := if_neg h

/-! ### a def with its promise, ready to be called -/
/-- a def at f that keeps a promise, its parameters, and that it stands -/
def Okf (P : Program) (w : World) (K : PySem.W.Frag) (mg : Str → Option Value) (base : Heap) (CX : CXT) (k : Nat) (f : Addr) (ps : List Str) (sp : Sp) : Prop :=
  ∃ fd, FnOk P w K mg base CX k f fd ps sp ∧ Binds K fd ps [] ∧ PySem.W.keepIn K (.ref f) = true
/-- a def of the text, at f, with its parameters -/
def Dft (K : PySem.W.Frag) (x qual : Str) (st : Stmt) (ps : List Str) (f : Addr) : Prop := ∃ fd, Fun K x qual st f fd ∧ Binds K fd ps []
section
variable {X : Cx} {CX : CXT} {k : Nat} {f C : Addr} {ps : List Str} {sp : Sp} {x m : Str} {p pos apos : Pos} {e o : Expr} {es : List Expr} {ta : TE} {t : TA} {E : XK}
theorem Okf.mono {P : Program} {w : World} {K : PySem.W.Frag} {mg : Str → Option Value} {base : Heap} {j k : Nat} (G : Okf P w K mg base CX j f ps sp) (h : j ≤ k) : Okf P w K mg base CX k f ps sp := by
  obtain ⟨fd, F, b, kp⟩ := G
  exact ⟨fd, F.mono h, b, kp⟩
/-- f(e, ..) -/
theorem call_f (G : Okf X.prog X.w X.K X.mg X.base CX k f ps sp) (hr : Room k X.A) (hg : Gl X x) (hm : X.mg x = some (.ref f)) (hx : Passes CX X E) (ha : PA X (e :: es) t)
    (hpl : (backTo pos (starEach es X.env)).any (·.1) = false := by rfl) (he : starEach (e :: es) X.env = (false, eval e X.env) :: starEach es X.env := by rfl) (hdb : (x == ("__debug__" : Str)) = false := by decide) :
    PE X (.Call (.Name x p) (e :: es) [] pos) (tCall sp [] E t) := by
  obtain ⟨fd, F, b, kp⟩ := G
  exact pe_call F hr hg hm kp b .nil hx ha hdb he hpl
/-- C(e, ..) -/
theorem call_c (M : Mk X.K C f) (G : Okf X.prog X.w X.K X.mg X.base CX k f ps sp) (hr : Room (k + 1) X.A) (hg : Gl X x) (hm : X.mg x = some (.ref C)) (hx : Passes CX X E) (ha : PA X (e :: es) t)
    (hpl : (backTo pos (starEach es X.env)).any (·.1) = false := by rfl) (he : starEach (e :: es) X.env = (false, eval e X.env) :: starEach es X.env := by rfl) (hdb : (x == ("__debug__" : Str)) = false := by decide) :
    PE X (.Call (.Name x p) (e :: es) [] pos) (tMake C sp [] E t) := by
  obtain ⟨fd, F, b, kp⟩ := G
  exact pe_make M F hr hg hm b .nil hx ha hdb he hpl
/-- C() -/
theorem call_c0 (M : Mk X.K C f) (G : Okf X.prog X.w X.K X.mg X.base CX k f ps sp) (hr : Room (k + 1) X.A) (hg : Gl X x) (hm : X.mg x = some (.ref C)) (hx : Passes CX X E)
    (hdb : (x == ("__debug__" : Str)) = false := by decide) : PE X (.Call (.Name x p) [] [] pos) (tMake C sp [] E tNil) := by
  obtain ⟨fd, F, b, kp⟩ := G
  exact pe_make0 M F hr hg hm b .nil hx hdb
/-- o.m(e, ..) -/
theorem call_m {pl : Sem Bool} (he : PE X o ta) (c : Cls X.K C) (hm : Meth X.K C m f) (G : Okf X.prog X.w X.K X.mg X.base CX k f ps sp) (hr : Room k X.A) (hx : Passes CX X E) (ha : PA X (e :: es) t)
    (hpl : (backTo pos (starEach es X.env)).any (·.1) = false := by rfl) (hst : starEach (e :: es) X.env = (false, eval e X.env) :: starEach es X.env := by rfl)
    (ht : eval (.Call (.Attribute o m apos) (e :: es) [] pos) X.env = (do let ov ← eval o X.env; standAt apos.atName; let (f, first) ← holding [ov] (getMethod ov m pl); callWith pos f first (backTo pos (starEach (e :: es) X.env)) (backToKw pos (keywordEach [] X.env))) := by rfl) :
    PE X (.Call (.Attribute o m apos) (e :: es) [] pos) (tMeth C m sp [] E ta t) := by
  obtain ⟨fd, F, b, kp⟩ := G
  exact pe_meth (pl := pl) he c hm F hr b .nil hx ha hst hpl ht
/-- o.m() -/
theorem call_m0 {pl : Sem Bool} (he : PE X o ta) (c : Cls X.K C) (hm : Meth X.K C m f) (G : Okf X.prog X.w X.K X.mg X.base CX k f ps sp) (hr : Room k X.A) (hx : Passes CX X E)
    (ht : eval (.Call (.Attribute o m apos) [] [] pos) X.env = (do let ov ← eval o X.env; standAt apos.atName; let (f, first) ← holding [ov] (getMethod ov m pl); callWith pos f first (backTo pos (starEach [] X.env)) (backToKw pos (keywordEach [] X.env))) := by rfl) :
    PE X (.Call (.Attribute o m apos) [] [] pos) (tMeth C m sp [] E ta tNil) := by
  obtain ⟨fd, F, b, kp⟩ := G
  exact pe_meth0 (pl := pl) he c hm F hr b .nil hx ht
/-- f(e, ..) within a try -/
theorem call_fS {ES : L2.St → XK} (G : Okf X.prog X.w X.K X.mg X.base CX k f ps sp) (hr : Room k X.A) (hg : Gl X x) (hm : X.mg x = some (.ref f)) (hx : ∀ σ, PassesAt CX X σ (ES σ)) (ha : PA X (e :: es) t)
    (hpl : (backTo pos (starEach es X.env)).any (·.1) = false := by rfl) (he : starEach (e :: es) X.env = (false, eval e X.env) :: starEach es X.env := by rfl) (hdb : (x == ("__debug__" : Str)) = false := by decide) :
    PE X (.Call (.Name x p) (e :: es) [] pos) (tCallS sp ES t) := by
  obtain ⟨fd, F, b, kp⟩ := G
  exact pe_callS F hr hg hm kp b hx ha hdb he hpl
end

/-! ### the sealed part of a heap: G holds what is never changed any more; H goes on to H', only what M tells is changed -/
structure Ext (G H G' H' : Hp) (M : Addr → Prop) : Prop where
  mono : Same G G'
  sub : Same G' H'
  keep : ∀ b o, H b = some o → ¬ M b → H' b = some o
  live : ∀ b o, H b = some o → ∃ o', H' b = some o'
  fresh : ∀ b o, H b = some o → G b = none → G' b = none
def none_ : Addr → Prop := fun _ => False
section
variable {G H G1 H1 G2 H2 : Hp} {M N : Addr → Prop} {p q : Addr} {o u : HO}
theorem Ext.refl (s : Same G H) : Ext G H G H M := ⟨Same.refl _, s, fun _ _ h _ => h, fun _ o h => ⟨o, h⟩, fun _ _ _ h => h⟩
theorem Ext.trans (a : Ext G H G1 H1 M) (b : Ext G1 H1 G2 H2 M) : Ext G H G2 H2 M :=
  ⟨a.mono.trans b.mono, b.sub, fun c o h n => b.keep c o (a.keep c o h n) n, fun c o h => by
    obtain ⟨o', h'⟩ := a.live c o h
    exact b.live c o' h', fun c o h n => by
    obtain ⟨o', h'⟩ := a.live c o h
    exact b.fresh c o' h' (a.fresh c o h n)⟩
/-- what only the second stretch changes may be new -/
theorem Ext.then_ (a : Ext G H G1 H1 M) (b : Ext G1 H1 G2 H2 N) (k : ∀ c, N c → M c ∨ H c = none) : Ext G H G2 H2 M := by
  refine ⟨a.mono.trans b.mono, b.sub, fun c o h n => ?_, fun c o h => ?_, fun c o h n => ?_⟩
  · refine b.keep c o (a.keep c o h n) fun m => ?_
    rcases k c m with m | m
    · exact n m
    · rw [h] at m
      cases m
  · obtain ⟨o', h'⟩ := a.live c o h
    exact b.live c o' h'
  · obtain ⟨o', h'⟩ := a.live c o h
    exact b.fresh c o' h' (a.fresh c o h n)
theorem Ext.free (a : Ext G H G1 H1 M) (h : H1 p = none) : H p = none := by
  cases q : H p with
  | none => rfl
  | some o =>
    obtain ⟨o', e⟩ := a.live p o q
    rw [h] at e
    cases e
theorem Ext.weaken (a : Ext G H G1 H1 M) (h : ∀ b, M b → N b) : Ext G H G1 H1 N := ⟨a.mono, a.sub, fun c o e n => a.keep c o e fun m => n (h c m), a.live, a.fresh⟩
theorem Ext.same (a : Ext G H G1 H1 none_) : Same H H1 := fun b o h => a.keep b o h fun n => n
theorem Ext.start (a : Ext G H G1 H1 M) : Same G H → Same G H1 := fun _ => a.mono.trans a.sub
theorem Same.upd_new (s : Same G H) (h : H p = none) : Same G (upd H p o) := fun b u e => by
  have e' := s b u e
  rw [upd_ne (ne_of_none e' h)]
  exact e'
theorem same_new (h : H p = none) : Same H (upd H p o) := Same.upd_new (Same.refl _) h
/-- a new object, sealed at once -/
theorem Ext.new (s : Same G H) (h : H p = none) : Ext G H (upd G p o) (upd H p o) M :=
  ⟨same_new (s.free h), fun b u e => by
    by_cases c : b = p
    · subst c
      rw [upd_same] at e ⊢
      exact e
    · rw [upd_ne c] at e ⊢
      exact s b u e, fun b u e _ => same_new h b u e, fun b u e => ⟨u, same_new h b u e⟩, fun b u e n => by
    rw [upd_ne (ne_of_none e h)]
    exact n⟩
/-- a new object that will be changed -/
theorem Ext.open_ (s : Same G H) (h : H p = none) : Ext G H G (upd H p o) M :=
  ⟨Same.refl _, Same.upd_new s h, fun b u e _ => same_new h b u e, fun b u e => ⟨u, same_new h b u e⟩, fun _ _ _ n => n⟩
/-- a change of what isn't sealed -/
theorem Same.set (s : Same G H) (g : G p = none) : Same G (upd H p o) := fun b u e => by
  by_cases c : b = p
  · subst c
    rw [g] at e
    cases e
  · rw [upd_ne c]
    exact s b u e
theorem Ext.set (s : Same G H) (g : G p = none) (m : M p) : Ext G H G (upd H p o) M :=
  ⟨Same.refl _, Same.set s g, fun b u e n => by
    have c : b ≠ p := fun c => n (c ▸ m)
    rw [upd_ne c]
    exact e, fun b u e => by
    by_cases c : b = p
    · subst c
      exact ⟨o, upd_same⟩
    · exact ⟨u, by rw [upd_ne c]; exact e⟩, fun _ _ _ n => n⟩
/-- what was new since H is sealed -/
theorem Ext.seal (a : Ext G H G1 H1 M) (h : H p = none) (e : H1 p = some o) (g : G1 p = none) : Ext G H (upd G1 p o) H1 M :=
  ⟨a.mono.trans (same_new g), fun b u q => by
    by_cases c : b = p
    · subst c
      rw [upd_same] at q
      cases q
      exact e
    · rw [upd_ne c] at q
      exact a.sub b u q, a.keep, a.live, fun b u q n => by
    rw [upd_ne (ne_of_none q h)]
    exact a.fresh b u q n⟩
/-- a step behind a stretch: the object at p, which was new since H, is changed -/
theorem Ext.put (a : Ext G H G1 H1 M) (h : H p = none) (g : G1 p = none) : Ext G H G1 (upd H1 p o) M :=
  ⟨a.mono, Same.set a.sub g, fun b u e n => by
    rw [upd_ne (ne_of_none e h)]
    exact a.keep b u e n, fun b u e => by
    rw [upd_ne (ne_of_none e h)]
    exact a.live b u e, a.fresh⟩
/-- an instance made, sealed at once -/
def mkH (H : Hp) (x dx C : Addr) (fs : List (Str × V)) : Hp := upd (upd H dx (.own x)) x (.ins C dx fs)
theorem mkH_x {x dx C : Addr} {fs : List (Str × V)} : mkH H x dx C fs x = some (.ins C dx fs) := upd_same
theorem mkH_old {x dx C b : Addr} {fs : List (Str × V)} {o : HO} (hx : H x = none) (hd : H dx = none) (e : H b = some o) : mkH H x dx C fs b = some o := by
  unfold mkH
  rw [upd_ne (ne_of_none e hx), upd_ne (ne_of_none e hd)]
  exact e
theorem Ext.made {x dx C : Addr} {fs : List (Str × V)} (s : Same G H) (hx : H x = none) (hd : H dx = none) : Ext G H (upd G x (.ins C dx fs)) (mkH H x dx C fs) M :=
  ⟨same_new (s.free hx), fun b u e => by
    by_cases c : b = x
    · subst c
      rw [upd_same] at e
      cases e
      exact mkH_x
    · rw [upd_ne c] at e
      exact mkH_old hx hd (s b u e), fun b u e _ => mkH_old hx hd e, fun b u e => ⟨u, mkH_old hx hd e⟩, fun b u e n => by
    rw [upd_ne (ne_of_none e hx)]
    exact n⟩
/-- an instance made that will be changed -/
theorem Ext.madeO {x dx C : Addr} {fs : List (Str × V)} (s : Same G H) (hx : H x = none) (hd : H dx = none) : Ext G H G (mkH H x dx C fs) M :=
  ⟨Same.refl _, fun b u e => mkH_old hx hd (s b u e), fun b u e _ => mkH_old hx hd e, fun b u e => ⟨u, mkH_old hx hd e⟩, fun _ _ _ n => n⟩
end
/-- __init__ of a plain class: the fields in their order -/
def spInit (C : Addr) (fields : List Str) : Sp := fun vs H Q _ => ∃ (p dx : Addr) (ws : List V), vs = .ref p :: ws ∧ ws.length = fields.length ∧ H p = some (.ins C dx []) ∧ Q .non (upd H p (.ins C dx (fields.zip ws)))
/-- what a class's call asks, by the heap behind it -/
theorem made_by {H : Hp} {C x dx : Addr} {fields : List Str} {ws : List V} {Q : VK} {E : XK} (hl : ws.length = fields.length) (h : Q (.ref x) (mkH H x dx C (fields.zip ws))) :
    spInit C fields (.ref x :: (ws ++ [])) (upd (upd H dx (.own x)) x (.ins C dx [])) (fun v H2 => v = .non ∧ Q (.ref x) H2) E := by
  rw [List.append_nil]
  refine ⟨x, dx, ws, rfl, hl, upd_same, rfl, ?_⟩
  rw [upd_upd]
  exact h

/-! ### two rows, item by item -/
inductive All2 {α β : Type} (R : α → β → Prop) : List α → List β → Prop where
  | nil : All2 R [] []
  | cons {a : α} {b : β} {l : List α} {m : List β} (h : R a b) (t : All2 R l m) : All2 R (a :: l) (b :: m)
namespace All2
variable {α β : Type} {R S : α → β → Prop}
theorem length : ∀ {l : List α} {m : List β}, All2 R l m → l.length = m.length
  | _, _, .nil => rfl
  | _, _, .cons _ t => congrArg (· + 1) (length t)
theorem imp (k : ∀ a b, R a b → S a b) : ∀ {l : List α} {m : List β}, All2 R l m → All2 S l m
  | _, _, .nil => .nil
  | _, _, .cons h t => .cons (k _ _ h) (imp k t)
theorem append : ∀ {l l' : List α} {m m' : List β}, All2 R l m → All2 R l' m' → All2 R (l ++ l') (m ++ m')
  | _, _, _, _, .nil, s => s
  | _, _, _, _, .cons h t, s => .cons h (append t s)
theorem one {a : α} {b : β} (h : R a b) : All2 R [a] [b] := .cons h .nil
theorem get : ∀ {l : List α} {m : List β} {i : Nat} {a : α}, All2 R l m → l[i]? = some a → ∃ b, m[i]? = some b ∧ R a b
  | _, _, _, _, .nil, e => by simp at e
  | _, _, 0, _, .cons h _, e => by
    simp at e
    subst e
    exact ⟨_, rfl, h⟩
  | _, _, i + 1, a, .cons _ t, e => by
    obtain ⟨b, h1, h2⟩ := get (i := i) (a := a) t (by simpa using e)
    exact ⟨b, by simpa using h1, h2⟩
theorem get' : ∀ {l : List α} {m : List β} {i : Nat} {b : β}, All2 R l m → m[i]? = some b → ∃ a, l[i]? = some a ∧ R a b
  | _, _, _, _, .nil, e => by simp at e
  | _, _, 0, _, .cons h _, e => by
    simp at e
    subst e
    exact ⟨_, rfl, h⟩
  | _, _, i + 1, a, .cons _ t, e => by
    obtain ⟨b, h1, h2⟩ := get' (i := i) (b := a) t (by simpa using e)
    exact ⟨b, by simpa using h1, h2⟩
theorem take : ∀ (n : Nat) {l : List α} {m : List β}, All2 R l m → All2 R (l.take n) (m.take n)
  | 0, _, _, _ => by
    rw [List.take_zero, List.take_zero]
    exact .nil
  | _ + 1, _, _, .nil => .nil
  | n + 1, _, _, .cons h t => .cons h (take n t)
theorem drop : ∀ (n : Nat) {l : List α} {m : List β}, All2 R l m → All2 R (l.drop n) (m.drop n)
  | 0, _, _, r => r
  | _ + 1, _, _, .nil => .nil
  | n + 1, _, _, .cons _ t => drop n t
theorem dropLast : ∀ {l : List α} {m : List β}, All2 R l m → All2 R l.dropLast m.dropLast
  | _, _, .nil => .nil
  | _, _, .cons h .nil => .nil
  | _, _, .cons h (.cons h2 t) => .cons h (dropLast (.cons h2 t))
theorem reverse {l : List α} {m : List β} (h : All2 R l m) : All2 R l.reverse m.reverse := by
  induction h with
  | nil => exact .nil
  | cons h _ ih =>
    rw [List.reverse_cons, List.reverse_cons]
    exact ih.append (.one h)
end All2
theorem atI_ok {α : Type} {xs : List α} {z : Int} {v : α} (h0 : 0 ≤ z) (h : xs[z.toNat]? = some v) : atI xs z = some v := by
  have e : z = ((z.toNat : Nat) : Int) := by omega
  rw [e]
  exact atI_nat h
theorem small {n : Nat} (h : n ≤ 1000) : n ≤ sizeLine := Nat.le_of_lt (small1000 h)
end Lf

set_option Elab.async false
set_option linter.all false
set_option maxRecDepth 100000
set_option maxHeartbeats 4000000
/-! # A comprehension whose element may raise -/
namespace Lf
open PySem PySem.Spec PyProof.Rows L2
open HandSPX (FlyingZ HeldZ TracedZ)

/-- a block with a way out for exceptions -/
abbrev blkX (X : Cx) (s : Shared) (H : Hp) (scope : Scope) (ce : Env) (fp : List Addr) (xe : Value → Shared → Prop) : Cx := { X.blk s H scope ce fp with xe := xe }
/-- what is wanted behind the block's run -/
def lcPost (M : Model) (A : Around) (E : Value → Shared → Prop) (Q : Value → Shared → Prop) (acc : Value) (ce : Env) (r : Result) (t : Shared) : Prop := match r with
  | .ok _ => ∃ m, t.heap.Ns ce.locals m ∧ ∀ h, Heap.SameBut ce.locals t.heap h → Q acc { t with heap := h }
  | .error x => ∃ m, t.heap.Ns ce.locals m ∧ ∀ h, Heap.SameBut ce.locals t.heap h → wpAny M A (PySem.passOn "comprehension.variables-let-go" x ce : Sem Value) (fun _ _ => False) E { t with heap := h }
theorem comp_out {M : Model} {A : Around} {E : Value → Shared → Prop} {s : Shared} {env : Env} {e : Expr} {scope : Scope} {pos : Pos} {newAcc first : Sem Value} {g : Comprehension} {gs : List Comprehension} {cl : List (Str × Addr)} {Q : Value → Shared → Prop}
    (c1 : clausesOf e = g :: gs) (c2 : ∀ x, foldedSetIterable g.iter env x = pure x) (c3 : closureFor scope env = pure cl) (c4 : scope.kind = .function) (c5 : ∀ x ∈ scope.names, x.2 = .local → scope.names.lookup x.1 = some .local)
    (h : wpAny M A first (fun x t1 => wpAny M A (pyIter x) (fun it t2 => wpAny M A newAcc (fun acc t3 => wpAny M A (newFunctionEnv scope env.globals cl [] env.qual none .none (some env))
      (fun ce t4 => codeAny M A (.compStart e 0 it acc { ce with scope := relabel scope env }) (lcPost M A E Q acc { ce with scope := relabel scope env }) t4) E t3) E t2) E t1) E s) :
    wpAny M A (comprehension e scope env pos newAcc false first none) Q E s := by
  unfold comprehension
  rw [c3, c1]
  refine wpAny_bind (thn h fun x t1 k1 => wpAny_bind (wpAny_standAt (wpAny_bind (wpAny_of_eq (c2 x) (wpAny_bind (wpAny_holding (thn k1 fun it t2 k2 => ?_)))))))
  refine wpAny_standIf (wpAny_bind (thn k2 fun acc t3 k3 => wpAny_bind (wpAny_pure (wpAny_bind (thn k3 fun ce t4 k4 => ?_)))))
  dsimp only
  have own : ∀ x ∈ (scope.names.filter fun x => (x.2 == .local || x.2 == .cell) && x.1 != (".0" : Str)).reverse, x.2 = .local → Env.kindOf { ce with scope := relabel scope env } x.1 = some .local :=
    fun x hx e => lookup_relabel_local (c5 x (List.mem_filter.mp (List.mem_reverse.mp hx)).1 e)
  refine wpAny_holding (wpAny_bind (wpAny_attempt (wpAny_holding (wpAny_run (codeAny_mono k4 fun r t5 k5 => ?_)))))
  cases r with
  | ok f =>
    obtain ⟨m, n5, q5⟩ := k5
    exact wpAny_bind (wpAny_holding (wpAny_comp_letGo (cenv := { ce with scope := relabel scope env }) c4 _ t5 m own n5 fun h' _ _ sb => wpAny_pure (q5 h' sb)))
  | error y =>
    obtain ⟨m, n5, q5⟩ := k5
    exact wpAny_bind (wpAny_holding (wpAny_comp_letGo (cenv := { ce with scope := relabel scope env }) c4 _ t5 m own n5 fun h' _ _ sb => wpAny_mono (q5 h' sb) (fun _ _ z => z.elim) fun _ _ z => z))
theorem note_frame {a b : Env} {e : Value} (h : a.frame = b.frame) : noteFrame e a = noteFrame e b := by
  unfold noteFrame PySem.frameOf
  rw [h]
theorem frames_but {B B' h h' : Heap} {C : Addr} : ∀ {l : List Env}, h.FunFrames B l → (∀ b, B.get? b = none → B'.get? b = none) → (∀ b, b ≠ C → h'.get? b = h.get? b) → (∀ b ∈ frs l, b ≠ C) → h'.FunFrames B' l
  | [], _, _, _, _ => trivial
  | env :: l, x, hB, hs, hC => by
    obtain ⟨k1, ⟨L, o, k2, k3, k4, k5⟩, k6⟩ := x
    refine ⟨k1, ⟨L, o, k2, hB L k3, (hs L (hC L (List.mem_filterMap.mpr ⟨env, List.mem_cons_self, k2⟩))).trans k4, k5⟩, frames_but k6 hB hs fun b hb => ?_⟩
    obtain ⟨y, hy, q⟩ := List.mem_filterMap.mp hb
    exact hC b (List.mem_filterMap.mpr ⟨y, List.mem_cons_of_mem _ hy, q⟩)
theorem hid_some {h : Heap} {C b : Addr} {o : Obj} (e : (PySem.W.hideAll h [C]).get? b = some o) : h.get? b = some o ∧ b ≠ C := by
  refine ⟨PySem.W.of_hideAll _ e, fun z => ?_⟩
  rw [z, PySem.W.hideAll_none [C] (List.mem_cons_self)] at e
  cases e
theorem hid_none {h : Heap} {C b : Addr} (e : h.get? b = none) : (PySem.W.hideAll h [C]).get? b = none := by
  cases q : (PySem.W.hideAll h [C]).get? b with
  | none => rfl
  | some o =>
    have := (hid_some q).1
    rw [e] at this
    cases this
theorem hid_keep {h : Heap} {C b : Addr} {o : Obj} (e : h.get? b = some o) (n : b ≠ C) : (PySem.W.hideAll h [C]).get? b = some o := PySem.W.hideAll_get _ e fun z => n (List.mem_singleton.mp z)
section
variable {X : Cx}
/-- a call's exception leaves the block by the def's own way -/
theorem lcx_out {pins pinsB : List (Addr × Obj)} {σ σB : L2.St} {H3 HB : Hp} {s3 sB s' : Shared} {E : XK} {scope : Scope} {ce : Env} {fp : List Addr} {xe : Value → Shared → Prop} {Q : Value → Shared → Prop} {acc e : Value}
    (tk : Takes X (fun cls d _ H => E cls d H)) (hst : X.stack = X.env :: X.outer) (hf : X.env.frame = some X.env.locals) (I3 : Inv X pins σ H3 s3) (f3 : ∀ b ∈ fp, FpOk X pins H3 b ∧ b < s3.heap.objs.size)
    (hC : ce.locals = s3.heap.objs.size) (hce : ce.frame = X.env.frame) (IB : Inv (blkX X s3 H3 scope ce fp xe) pinsB σB HB sB) (c : CX X.prog X.w X.stack HB sB E e s') :
    notedBy (model X.prog X.w) X.A ce (fun e t => lcPost (model X.prog X.w) X.A X.xe Q acc ce (.error e) t) e s' := by
  have c0 := c
  obtain ⟨a, B, sI, pins', σ', H', cls, d, rfl, I', nb, up, sky, na, os, ag, w⟩ := XE.of_call (X := blkX X s3 H3 scope ce fp xe) (W := fun cls d _ H => E cls d H) IB (fun _ _ _ h => h) c
  -- it flies
  have fl : FlyingZ B X.stack a (Zc cls d) s'.heap := by
    obtain ⟨a0, B0, H0, cls0, d0, e0, ⟨_, _, _, oe, vs, T, oT, ts, k1, k2, k3, k4, k5, k6, k7, k8, k9⟩, _⟩ := c0
    cases e0
    rcases sky with ⟨_, _, _, oe', vs', j1, _, j3, j4⟩ | fl | ⟨_, _, _, oe', vs', T', oT', ts', j1, _, j3, j4, _, _, j7, j8, j9⟩
    · rw [k1] at j1
      cases j1
      rw [k3] at j3
      cases j3
      rw [k4] at j4
      cases j4
    · exact fl
    · rw [k1] at j1
      cases j1
      rw [k3] at j3
      cases j3
      rw [k4] at j4
      cases j4
      rw [k7] at j7
      cases j7
      rw [k8] at j8
      cases j8
      rw [k9] at j9
      cases j9
  have hfr : X.A.frames = some (X.env :: X.outer) := by
    rw [I3.ok.frames, hst]
  have nst : ∀ b ∈ frs X.stack, b ≠ ce.locals := fun b hb z => by
    obtain ⟨_, o, ho, _⟩ := I3.stack.mem hb
    have := Heap.lt_size ho
    rw [z, hC] at this
    exact Nat.lt_irrefl _ this
  show wpAny _ _ (noteFrame (.ref a) ce) _ _ s'
  rw [note_frame hce]
  refine HandSPX.looks_onZ Zc.steady hfr hf (by rw [← hst]; exact fl) fun h1 held up1 => ?_
  rw [← hst] at held
  obtain ⟨g1, g2, g3, oe, vs, T, oT, ts, k1, k2, k3, k4, k5, k6, k7, k8, k9⟩ := held
  have IL : Inv (blkX X s3 H3 scope ce fp xe) pins' σ' H' { s' with heap := h1 } := Inv.landed (s' := { s' with heap := h1 }) I' nb g1 (up.trans up1) os ag
  obtain ⟨m, hn, _⟩ := IL.loc
  have hn : h1.Ns ce.locals m := hn
  refine ⟨m, hn, fun h2 sb => ?_⟩
  have sb2 : ∀ b, b ≠ ce.locals → h2.get? b = h1.get? b := sb.2
  obtain ⟨oC, es, ep, n1, n2, _⟩ := hn
  have aC : a ≠ ce.locals := fun z => by
    rw [z, n1] at k1
    cases k1
    rw [n2] at k3
    cases k3
  have tC : T ≠ ce.locals := fun z => by
    rw [z, n1] at k7
    cases k7
    rw [n2] at k8
    cases k8
  have held2 : HeldZ (PySem.W.hideAll B [ce.locals]) X.stack a (Zc cls d) X.env.locals h2 := by
    refine ⟨fun b o q => ?_, hid_none g2, frames_but g3 (fun b q => hid_none q) sb2 nst, oe, vs, T, oT, ts, (sb2 a aC).trans k1, k2, k3, k4, hid_none k5, k6, (sb2 T tC).trans k7, k8, k9⟩
    obtain ⟨q1, q2⟩ := hid_some q
    exact (sb2 b q2).trans (g1 b o q1)
  unfold PySem.passOn
  refine wpAny_bind (wpAny_field ((sb2 a aC).trans k1) k3 k4 ?_)
  rw [if_neg (show ¬ ((Value.ref T == Value.none) = true) by simp)]
  have go : wpAny (model X.prog X.w) X.A (setFlight (.ref a) ce.frame) (fun _ t => X.xe (.ref a) t) X.xe { s' with heap := h2 } := by
    rw [hce, hf]
    refine HandSPX.setFlight_onZ held2 fun h3 held3 up3 => ?_
    have I'base : Un (frs X.stack) fp H3 H' s3.heap sI.heap := I'.base
    have old : ∀ b o, s3.heap.get? b = some o → b ≠ ce.locals := fun b o q z => by
      have := Heap.lt_size q
      rw [z, hC] at this
      exact Nat.lt_irrefl _ this
    have freeC : H' ce.locals = none := I'.free
    have IX : Inv X pins σ H' { sI with heap := PySem.W.hideAll sI.heap [ce.locals] } := by
      refine I3.call' (s' := { sI with heap := PySem.W.hideAll sI.heap [ce.locals] }) (ch := fp) I'.os ⟨fun b o q n hb hx => hid_keep (I'base.keep b o q n hb hx) (old b o q), fun b o q n hb hx => ?_, I'base.free, fun b o q hx => ?_, I'base.tups, I'base.frzs, I'base.tbls⟩ (fun b o q => ?_) I'.bare fun b hb => ⟨(f3 b hb).1.2.2.2.1, (f3 b hb).1.2.1, (f3 b hb).1.2.2.2.2.1, (f3 b hb).1.2.2.2.2.2⟩
      · obtain ⟨sl, r⟩ := I'base.slot b o q n hb hx
        exact ⟨sl, hid_keep r (old b o q)⟩
      · obtain ⟨o', r⟩ := I'base.there b o q hx
        exact ⟨o', hid_keep r (old b o q)⟩
      · refine (I'.hok b o q).stay (fun y u hy r => hid_keep r fun z => ?_) (fun _ r => r) fun _ _ r => r
        subst z
        rcases hy with hy | hy
        · rw [← hy, freeC] at q
          cases q
        · rw [freeC] at hy
          cases hy
    refine tk _ _ ⟨a, PySem.W.hideAll B [ce.locals], _, pins, σ, H', cls, d, rfl, IX, fun b o q nb' => ?_, fun b o q nf => ?_, .inr (.inr held3), na, os, ag, w⟩
    · obtain ⟨q1, q2⟩ := hid_some q
      exact hid_keep (nb b o q1 nb') q2
    · obtain ⟨q1, q2⟩ := hid_some q
      obtain ⟨sl, r⟩ := (up.trans up1) b o q1 nf
      obtain ⟨sl3, r3⟩ := up3 b { o with slots := sl } ((sb2 b q2).trans r) nf
      exact ⟨sl3, r3⟩
  first
    | exact wpAny_bind (wpAny_pure (wpAny_bind (thn go fun _ t q => wpAny_throw q)))
    | exact wpAny_bind (thn go fun _ t q => wpAny_throw q)
theorem lcx_core {pins : List (Addr × Obj)} {s : Shared} {σ : L2.St} {H : Hp} {Q : VK} {elt tg iter : Expr} {ifs : List Expr} {scope : Scope} {own : List (Str × Nat)} {pos pos' : Pos} {wi : TI} {g : TG} {tt : TT} {te : TE} {E : XK} {Qf : Value → Shared → Prop}
    (tk : Takes X (fun cls d _ H => E cls d H)) (hst : X.stack = X.env :: X.outer) (hf : X.env.frame = some X.env.locals) (hc : X.calm = true) (hN : X.N.Nodup) (I : Inv X pins σ H s) (hi : PI X tg iter wi) (ok : BlkOk X.N X.env.scope scope own)
    (hg : ∀ (s : Shared) (H : Hp) (C : Addr) (cl : List (Str × Addr)) (fp : List Addr) (xe : Value → Shared → Prop), PG (blkX X s H scope (compEnvC scope cl C X.env) fp xe) tg g)
    (ht : ∀ (s : Shared) (H : Hp) (C : Addr) (cl : List (Str × Addr)) (fp : List Addr) (xe : Value → Shared → Prop), PTs (blkX X s H scope (compEnvC scope cl C X.env) fp xe) ifs tt)
    (he : ∀ (s : Shared) (H : Hp) (C : Addr) (cl : List (Str × Addr)) (fp : List Addr) (xe : Value → Shared → Prop), Passes (L2.CX X.prog X.w) (blkX X s H scope (compEnvC scope cl C X.env) fp xe) E → PE (blkX X s H scope (compEnvC scope cl C X.env) fp xe) elt te)
    (hs : ∀ x, foldedSetIterable iter X.env x = pure x) (h : tLc wi g tt te (own.map (·.2)) σ H Q)
    (fin_ : ∀ D C t m H', Inv X pins σ H' t → Q (.ref D) H' → t.heap.Ns C m → FpOk X pins H' C → ∃ m, t.heap.Ns C m ∧ ∀ h, Heap.SameBut C t.heap h → Qf (.ref D) { t with heap := h }) :
    wpAny (model X.prog X.w) X.A (comprehension (.ListComp elt [⟨tg, iter, ifs, 0⟩] scope pos) scope X.env pos' (newList []) false (eval iter X.env) none) Qf X.xe s := by
  have cells : ∀ y ∈ scope.names, y.2 = .free → ∃ c, X.env.cells.lookup y.1 = some c := fun y hy e => (ok.free y hy e).elim (fun k => I.ok.has _ (.inl k)) fun k => I.ok.has _ (.inr k)
  refine comp_out rfl hs (closure_ok cells) ok.kind (fun y hy e => by rw [ok.uniq y hy, e]) (thn (hi.run pins s σ H _ I h) fun xv t1 k1 => thn k1 fun itv t2 k2 => ?_)
  obtain ⟨it, fp, tn, J, H2, rfl, I2, T, a2, f2, q⟩ := k2
  refine wpAny_newObj_type (newEnv_comp ?_) (Nat.zero_le sizeLine)
  generalize hD : t2.heap.objs.size = D
  obtain ⟨W, ⟨m0, wB⟩, turn⟩ := q D (I2.hok.fresh (Nat.le_of_eq hD))
  generalize e3 : ({ t2 with heap := t2.heap.push { cls := .type "list", data := .seq ([] : List Value).toArray } } : Shared) = t3
  have h3 : t3.heap = t2.heap.push { cls := .type "list", data := .seq ([] : List Value).toArray } := by rw [← e3]
  have ID : Inv X pins σ (upd H2 D (.lst [])) t3 := by
    rw [← e3]
    refine I2.laid (t' := t2.toks) (fun b o z => Heap.get?_push_of_some _ z) (Nat.le_of_eq hD) ⟨Nat.zero_le _, [], 0, .nil, ?_⟩
    rw [← hD]
    exact Heap.get?_push_size _ rfl
  have fpB : ∀ b ∈ fp, FpOk X pins (upd H2 D (.lst [])) b ∧ b < t3.heap.objs.size := fun b hb => by
    obtain ⟨o, z, _⟩ := T.obj _ _ a2 b hb
    have lt := Heap.lt_size z
    refine ⟨⟨?_, (f2 b hb).2⟩, by rw [h3, Heap.size_push]; exact Nat.lt_succ_of_lt lt⟩
    rw [upd_ne (by rw [← hD]; exact Nat.ne_of_lt lt)]
    exact (f2 b hb).1
  have a3 : tn 0 t3.heap := T.keep _ _ _ a2 fun b _ o z => by
    rw [h3]
    exact Heap.get?_push_of_some _ z
  have IB := block_start ID ok hN fpB
  have out : ∀ b ∈ fp, (upd H2 D (.lst [])) b = none := fun b hb => (fpB b hb).1.1
  show codeAny _ _ (.compStart (.ListComp elt [⟨tg, iter, ifs, 0⟩] scope pos) 0 (.ref it) (.ref D) (compEnvC scope (cellsFrom (t3.heap.objs.size + 1) scope.names (cloFrom X.env.cells scope.names [])) t3.heap.objs.size X.env)) (lcPost (model X.prog X.w) X.A X.xe Qf (.ref D) (compEnvC scope (cellsFrom (t3.heap.objs.size + 1) scope.names (cloFrom X.env.cells scope.names [])) t3.heap.objs.size X.env)) { t3 with heap := pushCells (t3.heap.push { cls := .type "dict", data := .dict #[] }) scope.names }
  have pg := hg t3 (upd H2 D (.lst [])) t3.heap.objs.size (cellsFrom (t3.heap.objs.size + 1) scope.names (cloFrom X.env.cells scope.names [])) fp
  have pt := ht t3 (upd H2 D (.lst [])) t3.heap.objs.size (cellsFrom (t3.heap.objs.size + 1) scope.names (cloFrom X.env.cells scope.names [])) fp
  have pe := he t3 (upd H2 D (.lst [])) t3.heap.objs.size (cellsFrom (t3.heap.objs.size + 1) scope.names (cloFrom X.env.cells scope.names [])) fp
  generalize hce : compEnvC scope (cellsFrom (t3.heap.objs.size + 1) scope.names (cloFrom X.env.cells scope.names [])) t3.heap.objs.size X.env = ce at IB pg pt pe ⊢
  have cL : ce.locals = t3.heap.objs.size := by
    rw [← hce]
    rfl
  have cF : ce.frame = X.env.frame := by
    rw [← hce]
    rfl
  generalize hHB : upd H2 D (.lst []) = HB at ID IB pg pt pe wB out fpB
  generalize hs4 : ({ t3 with heap := pushCells (t3.heap.push { cls := .type "dict", data := .dict #[] }) scope.names } : Shared) = t4 at IB ⊢
  have a4 : tn 0 t4.heap := T.keep _ _ _ a3 fun b _ o z => by
    rw [← hs4]
    exact pushCells_keeps _ _ _ _ (Heap.get?_push_of_some _ z)
  generalize hR : lcPost (model X.prog X.w) X.A X.xe Qf (.ref D) ce = R
  generalize hxe : notedBy (model X.prog X.w) X.A ce (fun e t => R (.error e) t) = xe
  have IB : Inv (blkX X t3 HB scope ce fp xe) [] (wipe σ (own.map (·.2))) HB t4 := IB.toTry xe
  have pg := pg xe
  have pt := pt xe
  have pe := pe xe fun pins' σ' H' s' e t' I' c => by
    show xe e t'
    rw [← hxe, ← hR]
    exact lcx_out tk hst hf ID fpB cL cF I' c
  have stat : ∀ {σ' : L2.St} {H' : Hp} {s' : Shared}, Inv (blkX X t3 HB scope ce fp xe) [] σ' H' s' → (∀ b ∈ fp, H' b = none) → ∀ b ∈ fp, FpOk (blkX X t3 HB scope ce fp xe) [] H' b := fun {σ' H' s'} I' hn b hb =>
    ⟨hn b hb, (I'.ok.exf b hb).1, I'.ok.exfs b hb, .inl hb, fun x c z => (I'.ok.exf b hb).2 x c z, fun p hp => nomatch (show p ∈ ([] : List (Addr × Obj)) ++ [] from hp)⟩
  have loop : codeAny (model X.prog X.w) X.A (.compLoop (.ListComp elt [⟨tg, iter, ifs, 0⟩] scope pos) 0 (.ref it) (.ref D) ce) R t4 := by
    refine compLoop_any (fun n s' => ∃ i H', Inv (blkX X t3 HB scope ce fp xe) [] (wipe σ (own.map (·.2))) H' s' ∧ tn i s'.heap ∧ (∀ b ∈ fp, H' b = none) ∧ W i n H') ?_ m0 ⟨0, HB, IB, a4, out, wB⟩
    rintro n t5 ⟨i, H5, I5, a5, n5, w5⟩
    rw [hxe]
    rcases turn i n H5 w5 with ⟨stop, done⟩ | ⟨go, Aim, reach, step⟩
    · refine thn (T.done (blkX X t3 HB scope ce fp xe) rfl rfl rfl hc i [] t5 _ H5 xe I5 (stat I5 n5) a5 stop) fun r t6 ⟨hr, I6⟩ => ?_
      subst hr
      have I7 : Inv X pins σ H5 t6 := ID.call' (ch := fp) I6.os I6.base I6.hok I6.bare fun b hb => ⟨(fpB b hb).1.2.2.2.1, (fpB b hb).1.2.1, (fpB b hb).1.2.2.2.2.1, (fpB b hb).1.2.2.2.2.2⟩
      have nC : H5 t3.heap.objs.size = none := by
        rw [← cL]
        exact I6.free
      obtain ⟨m, hn, _⟩ := I6.loc
      have hn : t6.heap.Ns ce.locals m := hn
      show R (.ok .next) t6
      rw [← hR]
      exact fin_ D ce.locals t6 m H5 I7 done hn (by rw [cL]; exact ID.fpOk (Nat.le_refl _) nC)
    · refine thn (T.item (blkX X t3 HB scope ce fp xe) rfl rfl rfl hc i [] t5 _ H5 xe I5 (stat I5 n5) a5 go) fun r t6 ⟨u, hr, k6⟩ => ?_
      subst hr
      refine thn k6 fun _ t7 ⟨x, H7, I7, r7, y7, a7, n7⟩ => ?_
      have I8 := I7.pinned (stat I7 n7) (T.obj _ _ a7)
      refine thn (pg.run _ t7 _ H7 x u _ I8 r7 (step x H7 y7)) fun _ t8 ⟨σ8, H8, I9, hw, q8⟩ => thn (pt.run _ t8 σ8 H8 _ I9 q8) fun b t9 ⟨H9, I10, q9⟩ => ?_
      have again : ∀ {s' : Shared} {H' : Hp}, Inv (blkX X t3 HB scope ce fp xe) ([] ++ pinsAt fp t7.heap) σ8 H' s' → Aim H' → ∃ m, m < n ∧ ∃ i H', Inv (blkX X t3 HB scope ce fp xe) [] (wipe σ (own.map (·.2))) H' s' ∧ tn i s'.heap ∧ (∀ b ∈ fp, H' b = none) ∧ W i m H' := fun {s' H'} I' nx => by
        obtain ⟨m', hm, w'⟩ := reach H' nx
        have stays : ∀ b ∈ fp, ∀ o, t7.heap.get? b = some o → s'.heap.get? b = some o ∧ H' b = none := fun b hb o z => by
          have z2 := I'.pin (b, o) (List.mem_append_right _ (List.mem_append_right _ (mem_pinsAt hb z)))
          exact ⟨z2.1, z2.2.1⟩
        refine ⟨m', hm, i + 1, H', (I'.unpinned (pins := [])).weak (by rw [← hw, wipe_length]) (fun j v z => by rw [← hw] at z; exact (wipe_some z).1), T.keep _ _ _ a7 fun b hb o z => (stays b hb o z).1, fun b hb => ?_, w'⟩
        obtain ⟨o, z, _⟩ := T.obj _ _ a7 b hb
        exact (stays b hb o z).2
      cases b with
      | false =>
        rw [if_neg Bool.false_ne_true] at q9 ⊢
        exact again I10 q9
      | true =>
        rw [if_pos rfl] at q9 ⊢
        refine thn (pe.run _ t9 σ8 H9 _ I10 q9) fun z t10 ⟨yv, H10, I11, r10, acc, d10, z10, nx⟩ => ?_
        exact app_ok (X := blkX X t3 HB scope ce fp xe) I11 d10 z10 r10 fun t11 I12 => again I12 nx
  exact codeAny_compStart_list loop (T.self X.A 0 _ _ _ a4 loop)
theorem pe_lcX {elt tg iter : Expr} {ifs : List Expr} {scope : Scope} {own : List (Str × Nat)} {pos : Pos} {wi : TI} {g : TG} {tt : TT} {te : TE} {E : XK} (tk : Takes X (fun cls d _ H => E cls d H)) (hc : X.calm = true) (hN : X.N.Nodup) (hi : PI X tg iter wi) (ok : BlkOk X.N X.env.scope scope own)
    (hg : ∀ (s : Shared) (H : Hp) (C : Addr) (cl : List (Str × Addr)) (fp : List Addr) (xe : Value → Shared → Prop), PG (blkX X s H scope (compEnvC scope cl C X.env) fp xe) tg g)
    (ht : ∀ (s : Shared) (H : Hp) (C : Addr) (cl : List (Str × Addr)) (fp : List Addr) (xe : Value → Shared → Prop), PTs (blkX X s H scope (compEnvC scope cl C X.env) fp xe) ifs tt)
    (he : ∀ (s : Shared) (H : Hp) (C : Addr) (cl : List (Str × Addr)) (fp : List Addr) (xe : Value → Shared → Prop), Passes (L2.CX X.prog X.w) (blkX X s H scope (compEnvC scope cl C X.env) fp xe) E → PE (blkX X s H scope (compEnvC scope cl C X.env) fp xe) elt te)
    (hst : X.stack = X.env :: X.outer := by rfl) (hf : X.env.frame = some X.env.locals := by rfl) (hs : ∀ x, foldedSetIterable iter X.env x = pure x := by intro _; rfl) :
    PE X (.ListComp elt [⟨tg, iter, ifs, 0⟩] scope pos) (tLc wi g tt te (own.map Prod.snd)) := by
  refine ⟨fun pins s σ H Q I h => ?_⟩
  rw [eval_ListComp]
  refine lcx_core tk hst hf hc hN I hi ok hg ht he hs h fun D C t m H' I' q hn f => ⟨m, hn, fun h'' sb => ?_⟩
  obtain ⟨g0, g1, _, g3, g4, g5⟩ := f
  exact ⟨.ref D, H', I'.turned (t' := t.toks) (fun b o hb z => (sb.2 b hb).trans z) g0 g1 g3 g4 g5, rfl, q⟩
end
end Lf

set_option Elab.async false
set_option linter.all false
set_option maxRecDepth 100000
set_option maxHeartbeats 4000000
/-! # The text by places; the scopes; what the top has written -/
namespace Lf
open PySem PySem.Spec PyProof.Rows L2
def top (i : Nat) : Stmt := PySem.Challenge.pw_loopsfound_s01_answers.main.body.getD i (.Pass ⟨0, 0, 0, 0⟩)
abbrev s_Reader_init : Stmt := inClass (top 7) 0
theorem sc_Reader_init : FnScope ["self", "numbers"] ["self", "numbers"] (defScope s_Reader_init) := ⟨rfl, rfl, rfl, by decide +kernel, rfl, by decide +kernel, by decide +kernel⟩
abbrev s_Reader_take : Stmt := inClass (top 7) 1
theorem sc_Reader_take : FnScope ["self", "lowest", "highest", "number"] ["self", "lowest", "highest"] (defScope s_Reader_take) := ⟨rfl, rfl, rfl, by decide +kernel, rfl, by decide +kernel, by decide +kernel⟩
abbrev s_Reader_finish : Stmt := inClass (top 7) 2
theorem sc_Reader_finish : FnScope ["self"] ["self"] (defScope s_Reader_finish) := ⟨rfl, rfl, rfl, by decide +kernel, rfl, by decide +kernel, by decide +kernel⟩
abbrev s_has_number : Stmt := top 24
theorem sc_has_number : FnScope ["deed"] ["deed"] (defScope s_has_number) := ⟨rfl, rfl, rfl, by decide +kernel, rfl, by decide +kernel, by decide +kernel⟩
abbrev s_number_of : Stmt := top 25
theorem sc_number_of : FnScope ["deed"] ["deed"] (defScope s_number_of) := ⟨rfl, rfl, rfl, by decide +kernel, rfl, by decide +kernel, by decide +kernel⟩
abbrev s_deed_at_round : Stmt := top 26
theorem sc_deed_at_round : FnScope ["deed", "step", "round_number"] ["deed", "step", "round_number"] (defScope s_deed_at_round) := ⟨rfl, rfl, rfl, by decide +kernel, rfl, by decide +kernel, by decide +kernel⟩
abbrev s_step_between : Stmt := top 27
theorem sc_step_between : FnScope ["first", "second", "step"] ["first", "second"] (defScope s_step_between) := ⟨rfl, rfl, rfl, by decide +kernel, rfl, by decide +kernel, by decide +kernel⟩
abbrev s_read_deed : Stmt := top 28
theorem sc_read_deed : FnScope ["reader", "kind", "field"] ["reader"] (defScope s_read_deed) := ⟨rfl, rfl, rfl, by decide +kernel, rfl, by decide +kernel, by decide +kernel⟩
abbrev s_whole_deed : Stmt := top 29
theorem sc_whole_deed : FnScope ["numbers", "reader", "deed"] ["numbers"] (defScope s_whole_deed) := ⟨rfl, rfl, rfl, by decide +kernel, rfl, by decide +kernel, by decide +kernel⟩
abbrev s_whole_deeds : Stmt := top 30
theorem sc_whole_deeds : FnScope ["numbers", "reader", "deeds", "place"] ["numbers"] (defScope s_whole_deeds) := ⟨rfl, rfl, rfl, by decide +kernel, rfl, by decide +kernel, by decide +kernel⟩
abbrev s_deeds_as_numbers : Stmt := top 31
theorem sc_deeds_as_numbers : FnScope ["deeds", "numbers", "deed"] ["deeds"] (defScope s_deeds_as_numbers) := ⟨rfl, rfl, rfl, by decide +kernel, rfl, by decide +kernel, by decide +kernel⟩
abbrev s_DeedPiece_init : Stmt := inClass (top 40) 0
theorem sc_DeedPiece_init : FnScope ["self", "deed", "step"] ["self", "deed", "step"] (defScope s_DeedPiece_init) := ⟨rfl, rfl, rfl, by decide +kernel, rfl, by decide +kernel, by decide +kernel⟩
abbrev s_LoopPiece_init : Stmt := inClass (top 41) 0
theorem sc_LoopPiece_init : FnScope ["self", "rounds", "row"] ["self", "rounds", "row"] (defScope s_LoopPiece_init) := ⟨rfl, rfl, rfl, by decide +kernel, rfl, by decide +kernel, by decide +kernel⟩
abbrev s_TableBoundPiece_init : Stmt := inClass (top 42) 0
theorem sc_TableBoundPiece_init : FnScope ["self", "row"] ["self", "row"] (defScope s_TableBoundPiece_init) := ⟨rfl, rfl, rfl, by decide +kernel, rfl, by decide +kernel, by decide +kernel⟩
abbrev s_read_piece : Stmt := top 43
theorem sc_read_piece : FnScope ["reader", "deep", "kind", "deed", "step", "rounds"] ["reader", "deep"] (defScope s_read_piece) := ⟨rfl, rfl, rfl, by decide +kernel, rfl, by decide +kernel, by decide +kernel⟩
abbrev s_read_row : Stmt := top 44
theorem sc_read_row : FnScope ["reader", "deep", "row", "place"] ["reader", "deep"] (defScope s_read_row) := ⟨rfl, rfl, rfl, by decide +kernel, rfl, by decide +kernel, by decide +kernel⟩
abbrev s_count_pieces : Stmt := top 45
theorem sc_count_pieces : FnScope ["row", "pieces", "piece"] ["row"] (defScope s_count_pieces) := ⟨rfl, rfl, rfl, by decide +kernel, rfl, by decide +kernel, by decide +kernel⟩
abbrev s_whole_program : Stmt := top 46
theorem sc_whole_program : FnScope ["numbers", "reader", "program"] ["numbers"] (defScope s_whole_program) := ⟨rfl, rfl, rfl, by decide +kernel, rfl, by decide +kernel, by decide +kernel⟩
abbrev s_is_table_bound : Stmt := top 47
theorem sc_is_table_bound : FnScope ["row", "piece"] ["row"] (defScope s_is_table_bound) := ⟨rfl, rfl, rfl, by decide +kernel, rfl, by decide +kernel, by decide +kernel⟩
abbrev s_tell : Stmt := top 48
theorem sc_tell : FnScope ["row", "round_number", "told", "piece", "inner_round"] ["row", "round_number"] (defScope s_tell) := ⟨rfl, rfl, rfl, by decide +kernel, rfl, by decide +kernel, by decide +kernel⟩
abbrev s_count_told : Stmt := top 49
theorem sc_count_told : FnScope ["row", "told", "piece"] ["row"] (defScope s_count_told) := ⟨rfl, rfl, rfl, by decide +kernel, rfl, by decide +kernel, by decide +kernel⟩
abbrev s_told_by : Stmt := top 50
theorem sc_told_by : FnScope ["numbers", "program"] ["numbers"] (defScope s_told_by) := ⟨rfl, rfl, rfl, by decide +kernel, rfl, by decide +kernel, by decide +kernel⟩
abbrev s_row_as_numbers : Stmt := top 51
theorem sc_row_as_numbers : FnScope ["row", "numbers", "piece"] ["row"] (defScope s_row_as_numbers) := ⟨rfl, rfl, rfl, by decide +kernel, rfl, by decide +kernel, by decide +kernel⟩
abbrev s_Stretch_init : Stmt := inClass (top 54) 0
theorem sc_Stretch_init : FnScope ["self", "deeds", "start", "length", "rounds", "deep"] ["self", "deeds", "start", "length", "rounds", "deep"] (defScope s_Stretch_init) := ⟨rfl, rfl, rfl, by decide +kernel, rfl, by decide +kernel, by decide +kernel⟩
abbrev s_Folded_init : Stmt := inClass (top 55) 0
theorem sc_Folded_init : FnScope ["self", "ways", "row", "pieces", "width"] ["self", "ways", "row", "pieces", "width"] (defScope s_Folded_init) := ⟨rfl, rfl, rfl, by decide +kernel, rfl, by decide +kernel, by decide +kernel⟩
abbrev s_fold : Stmt := top 56
theorem sc_fold : FnScope ["deeds"] ["deeds"] (defScope s_fold) := ⟨rfl, rfl, rfl, by decide +kernel, rfl, by decide +kernel, by decide +kernel⟩
abbrev s_fold_stretch : Stmt := top 57
theorem sc_fold_stretch : FnScope ["stretch", "folded", "left", "place", "firsts"] ["stretch"] (defScope s_fold_stretch) := ⟨rfl, rfl, rfl, by decide +kernel, rfl, by decide +kernel, by decide +kernel⟩
abbrev s_fold_left : Stmt := top 58
theorem sc_fold_left : FnScope ["firsts", "folded", "left", "ways", "row", "fewest", "first", "behind", "pieces"] ["firsts", "folded", "left"] (defScope s_fold_left) := ⟨rfl, rfl, rfl, by decide +kernel, rfl, by decide +kernel, by decide +kernel⟩
abbrev s_deed_choices : Stmt := top 59
theorem sc_deed_choices : FnScope ["stretch", "place", "first", "step", "round_number", "deed"] ["stretch", "place"] (defScope s_deed_choices) := ⟨rfl, rfl, rfl, by decide +kernel, rfl, by decide +kernel, by decide +kernel⟩
abbrev s_loop_choices : Stmt := top 60
theorem sc_loop_choices : FnScope ["stretch", "place", "left", "choices", "length", "rounds", "body", "loop"] ["stretch", "place", "left"] (defScope s_loop_choices) := ⟨rfl, rfl, rfl, by decide +kernel, rfl, by decide +kernel, by decide +kernel⟩
abbrev s_is_same_each_round : Stmt := top 61
theorem sc_is_same_each_round : FnScope ["stretch", "place", "width", "deeds", "round_number", "later"] ["stretch", "place", "width"] (defScope s_is_same_each_round) := ⟨rfl, rfl, rfl, by decide +kernel, rfl, by decide +kernel, by decide +kernel⟩
abbrev s_most_rounds : Stmt := top 62
theorem sc_most_rounds : FnScope ["deeds", "place", "length", "fitting", "rounds"] ["deeds", "place", "length"] (defScope s_most_rounds) := ⟨rfl, rfl, rfl, by decide +kernel, rfl, by decide +kernel, by decide +kernel⟩
abbrev s_plain_loops : Stmt := top 63
theorem sc_plain_loops : FnScope ["deeds", "found", "place", "length", "rounds"] ["deeds"] (defScope s_plain_loops) := ⟨rfl, rfl, rfl, by decide +kernel, rfl, by decide +kernel, by decide +kernel⟩
abbrev s_Guess_init : Stmt := inClass (top 65) 0
theorem sc_Guess_init : FnScope ["self", "period", "tail", "deed"] ["self", "period", "tail", "deed"] (defScope s_Guess_init) := ⟨rfl, rfl, rfl, by decide +kernel, rfl, by decide +kernel, by decide +kernel⟩
abbrev s_goes_along : Stmt := top 66
theorem sc_goes_along : FnScope ["deeds", "place", "period", "later", "step"] ["deeds", "place", "period"] (defScope s_goes_along) := ⟨rfl, rfl, rfl, by decide +kernel, rfl, by decide +kernel, by decide +kernel⟩
abbrev s_tail_of : Stmt := top 67
theorem sc_tail_of : FnScope ["deeds", "period", "start"] ["deeds", "period"] (defScope s_tail_of) := ⟨rfl, rfl, rfl, by decide +kernel, rfl, by decide +kernel, by decide +kernel⟩
abbrev s_does_count : Stmt := top 68
theorem sc_does_count : FnScope ["period", "tail"] ["period", "tail"] (defScope s_does_count) := ⟨rfl, rfl, rfl, by decide +kernel, rfl, by decide +kernel, by decide +kernel⟩
abbrev s_deed_behind : Stmt := top 69
theorem sc_deed_behind : FnScope ["deeds", "period", "tail", "earlier", "step"] ["deeds", "period", "tail"] (defScope s_deed_behind) := ⟨rfl, rfl, rfl, by decide +kernel, rfl, by decide +kernel, by decide +kernel⟩
abbrev s_guess_next : Stmt := top 70
theorem sc_guess_next : FnScope ["deeds", "best", "longest", "period", "tail"] ["deeds"] (defScope s_guess_next) := ⟨rfl, rfl, rfl, by decide +kernel, rfl, by decide +kernel, by decide +kernel⟩
abbrev s_Table_init : Stmt := inClass (top 79) 0
theorem sc_Table_init : FnScope ["self", "rows", "cursor", "clipboard"] ["self", "rows", "cursor", "clipboard"] (defScope s_Table_init) := ⟨rfl, rfl, rfl, by decide +kernel, rfl, by decide +kernel, by decide +kernel⟩
abbrev s_read_value : Stmt := top 80
theorem sc_read_value : FnScope ["reader"] ["reader"] (defScope s_read_value) := ⟨rfl, rfl, rfl, by decide +kernel, rfl, by decide +kernel, by decide +kernel⟩
abbrev s_whole_table : Stmt := top 81
theorem sc_whole_table : FnScope ["numbers", "reader", "rows", "place", "cursor", "clipboard", "field"] ["numbers"] (defScope s_whole_table) := ⟨rfl, rfl, rfl, by decide +kernel, rfl, by decide +kernel, by decide +kernel⟩
abbrev s_table_as_numbers : Stmt := top 82
theorem sc_table_as_numbers : FnScope ["table", "numbers", "row"] ["table"] (defScope s_table_as_numbers) := ⟨rfl, rfl, rfl, by decide +kernel, rfl, by decide +kernel, by decide +kernel⟩
abbrev s_found_below : Stmt := top 83
theorem sc_found_below : FnScope ["table", "field", "number", "place"] ["table", "field", "number"] (defScope s_found_below) := ⟨rfl, rfl, rfl, by decide +kernel, rfl, by decide +kernel, by decide +kernel⟩
abbrev s_new_value : Stmt := top 84
theorem sc_new_value : FnScope ["table", "deed"] ["table", "deed"] (defScope s_new_value) := ⟨rfl, rfl, rfl, by decide +kernel, rfl, by decide +kernel, by decide +kernel⟩
abbrev s_fault_of : Stmt := top 85
theorem sc_fault_of : FnScope ["table", "deed", "kind"] ["table", "deed"] (defScope s_fault_of) := ⟨rfl, rfl, rfl, by decide +kernel, rfl, by decide +kernel, by decide +kernel⟩
abbrev s_do_deed : Stmt := top 86
theorem sc_do_deed : FnScope ["table", "deed", "kind"] ["table", "deed"] (defScope s_do_deed) := ⟨rfl, rfl, rfl, by decide +kernel, rfl, by decide +kernel, by decide +kernel⟩
abbrev s_run_deeds : Stmt := top 87
theorem sc_run_deeds : FnScope ["table", "deeds", "done", "deed", "fault"] ["table", "deeds"] (defScope s_run_deeds) := ⟨rfl, rfl, rfl, by decide +kernel, rfl, by decide +kernel, by decide +kernel⟩
abbrev s_Recording_init : Stmt := inClass (top 99) 0
theorem sc_Recording_init : FnScope ["self"] ["self"] (defScope s_Recording_init) := ⟨rfl, rfl, rfl, by decide +kernel, rfl, by decide +kernel, by decide +kernel⟩
abbrev s_Recording_record : Stmt := inClass (top 99) 1
theorem sc_Recording_record : FnScope ["self", "numbers"] ["self", "numbers"] (defScope s_Recording_record) := ⟨rfl, rfl, rfl, by decide +kernel, rfl, by decide +kernel, by decide +kernel⟩
abbrev s_Recording_add : Stmt := inClass (top 99) 2
theorem sc_Recording_add : FnScope ["self", "numbers", "deed"] ["self", "numbers"] (defScope s_Recording_add) := ⟨rfl, rfl, rfl, by decide +kernel, rfl, by decide +kernel, by decide +kernel⟩
abbrev s_Recording_drop : Stmt := inClass (top 99) 3
theorem sc_Recording_drop : FnScope ["self"] ["self"] (defScope s_Recording_drop) := ⟨rfl, rfl, rfl, by decide +kernel, rfl, by decide +kernel, by decide +kernel⟩
abbrev s_Recording_count : Stmt := inClass (top 99) 4
theorem sc_Recording_count : FnScope ["self"] ["self"] (defScope s_Recording_count) := ⟨rfl, rfl, rfl, by decide +kernel, rfl, by decide +kernel, by decide +kernel⟩
abbrev s_Recording_least : Stmt := inClass (top 99) 5
theorem sc_Recording_least : FnScope ["self", "folded"] ["self"] (defScope s_Recording_least) := ⟨rfl, rfl, rfl, by decide +kernel, rfl, by decide +kernel, by decide +kernel⟩
abbrev s_Recording_is_it : Stmt := inClass (top 99) 6
theorem sc_Recording_is_it : FnScope ["self", "numbers"] ["self", "numbers"] (defScope s_Recording_is_it) := ⟨rfl, rfl, rfl, by decide +kernel, rfl, by decide +kernel, by decide +kernel⟩
abbrev s_Recording_unroll : Stmt := inClass (top 99) 7
theorem sc_Recording_unroll : FnScope ["self", "numbers"] ["self", "numbers"] (defScope s_Recording_unroll) := ⟨rfl, rfl, rfl, by decide +kernel, rfl, by decide +kernel, by decide +kernel⟩
abbrev s_Recording_next_one : Stmt := inClass (top 99) 8
theorem sc_Recording_next_one : FnScope ["self", "guess"] ["self"] (defScope s_Recording_next_one) := ⟨rfl, rfl, rfl, by decide +kernel, rfl, by decide +kernel, by decide +kernel⟩
abbrev s_Recording_loops : Stmt := inClass (top 99) 9
theorem sc_Recording_loops : FnScope ["self", "found", "numbers", "loop"] ["self"] (defScope s_Recording_loops) := ⟨rfl, rfl, rfl, by decide +kernel, rfl, by decide +kernel, by decide +kernel⟩
abbrev s_Recording_play : Stmt := inClass (top 99) 10
theorem sc_Recording_play : FnScope ["self", "numbers", "table", "ended"] ["self", "numbers"] (defScope s_Recording_play) := ⟨rfl, rfl, rfl, by decide +kernel, rfl, by decide +kernel, by decide +kernel⟩
abbrev s_Recording_told : Stmt := inClass (top 99) 11
theorem sc_Recording_told : FnScope ["self"] ["self"] (defScope s_Recording_told) := ⟨rfl, rfl, rfl, by decide +kernel, rfl, by decide +kernel, by decide +kernel⟩
abbrev s_compare : Stmt := top 100
theorem sc_compare : FnScope ["told", "deeds", "shorter", "place"] ["told", "deeds"] (defScope s_compare) := ⟨rfl, rfl, rfl, by decide +kernel, rfl, by decide +kernel, by decide +kernel⟩
abbrev s_do_call : Stmt := top 101
theorem sc_do_call : FnScope ["recording", "call", "numbers"] ["recording", "call", "numbers"] (defScope s_do_call) := ⟨rfl, rfl, rfl, by decide +kernel, rfl, by decide +kernel, by decide +kernel⟩
abbrev s_answer : Stmt := top 102
theorem sc_answer : FnScope ["recording", "call", "numbers"] ["recording", "call", "numbers"] (defScope s_answer) := ⟨rfl, rfl, rfl, by decide +kernel, rfl, by decide +kernel, by decide +kernel⟩
abbrev s_answers : Stmt := top 103
theorem sc_answers : FnScope ["calls", "recording", "given", "place", "call", "numbers", "end", "answered"] ["calls"] (defScope s_answers) := ⟨rfl, rfl, rfl, by decide +kernel, rfl, by decide +kernel, by decide +kernel⟩
/-- where the top has put things -/
structure Ad where
  (c_NotWhole c_NoDeeds c_NotOnlyRounds c_FullRecording c_TellsTooMuch c_Reader c_DeedPiece c_LoopPiece c_TableBoundPiece c_Stretch c_Folded c_Guess c_Table c_Recording f_Reader_init f_Reader_take f_Reader_finish f_has_number f_number_of f_deed_at_round f_step_between f_read_deed f_whole_deed f_whole_deeds f_deeds_as_numbers f_DeedPiece_init f_LoopPiece_init f_TableBoundPiece_init f_read_piece f_read_row f_count_pieces f_whole_program f_is_table_bound f_tell f_count_told f_told_by f_row_as_numbers f_Stretch_init f_Folded_init f_fold f_fold_stretch f_fold_left f_deed_choices f_loop_choices f_is_same_each_round f_most_rounds f_plain_loops f_Guess_init f_goes_along f_tail_of f_does_count f_deed_behind f_guess_next f_Table_init f_read_value f_whole_table f_table_as_numbers f_found_below f_new_value f_fault_of f_do_deed f_run_deeds f_Recording_init f_Recording_record f_Recording_add f_Recording_drop f_Recording_count f_Recording_least f_Recording_is_it f_Recording_unroll f_Recording_next_one f_Recording_loops f_Recording_play f_Recording_told f_compare f_do_call f_answer f_answers t_KINDS_WITH_FIELD t_KINDS_WITH_NUMBER : Addr)
/-- an own error's class -/
structure Err (K : PySem.W.Frag) (mg : Str → Option Value) (n : Str) (C : Addr) : Prop where
  g : mg n = some (.ref C)
  x : PySem.W.excIn K C [.type "Exception", .type "BaseException", .type "object"] "Exception.__new__" = true
  k : PySem.W.keepIn K (.ref C) = true
  b : PySem.W.subIn K (.ref C) (.type "BaseException") = some true
  t : PySem.W.typeIn K (.ref C) = some (.type "type")
/-- what isinstance asks of a class -/
structure Isi (K : PySem.W.Frag) (C : Addr) : Prop where
  (hm : PySem.W.mroIn K C (.type "object") = some true) (htk : PySem.W.takesIn K (.builtin "object.__class__") = some true) (ha : PySem.W.findIn K (.ref C) "__class__" = some (some (.builtin "object.__class__"))) (hn : PySem.W.specialIn K (.builtin "object.__class__") "__get__" = some (some (.builtin "getset_descriptor.__get__")))
structure Txt (K : PySem.W.Frag) (mg : Str → Option Value) (A : Ad) : Prop where
  er_NotWhole : Err K mg "NotWhole" A.c_NotWhole
  er_NoDeeds : Err K mg "NoDeeds" A.c_NoDeeds
  er_NotOnlyRounds : Err K mg "NotOnlyRounds" A.c_NotOnlyRounds
  er_FullRecording : Err K mg "FullRecording" A.c_FullRecording
  er_TellsTooMuch : Err K mg "TellsTooMuch" A.c_TellsTooMuch
  ex_NotWhole_NotWhole : PySem.W.exmOne K (.ref A.c_NotWhole) (.ref A.c_NotWhole) = some true
  ex_NotWhole_NoDeeds : PySem.W.exmOne K (.ref A.c_NotWhole) (.ref A.c_NoDeeds) = some false
  ex_NotWhole_NotOnlyRounds : PySem.W.exmOne K (.ref A.c_NotWhole) (.ref A.c_NotOnlyRounds) = some false
  ex_NotWhole_FullRecording : PySem.W.exmOne K (.ref A.c_NotWhole) (.ref A.c_FullRecording) = some false
  ex_NotWhole_TellsTooMuch : PySem.W.exmOne K (.ref A.c_NotWhole) (.ref A.c_TellsTooMuch) = some false
  ex_NoDeeds_NotWhole : PySem.W.exmOne K (.ref A.c_NoDeeds) (.ref A.c_NotWhole) = some false
  ex_NoDeeds_NoDeeds : PySem.W.exmOne K (.ref A.c_NoDeeds) (.ref A.c_NoDeeds) = some true
  ex_NoDeeds_NotOnlyRounds : PySem.W.exmOne K (.ref A.c_NoDeeds) (.ref A.c_NotOnlyRounds) = some false
  ex_NoDeeds_FullRecording : PySem.W.exmOne K (.ref A.c_NoDeeds) (.ref A.c_FullRecording) = some false
  ex_NoDeeds_TellsTooMuch : PySem.W.exmOne K (.ref A.c_NoDeeds) (.ref A.c_TellsTooMuch) = some false
  ex_NotOnlyRounds_NotWhole : PySem.W.exmOne K (.ref A.c_NotOnlyRounds) (.ref A.c_NotWhole) = some false
  ex_NotOnlyRounds_NoDeeds : PySem.W.exmOne K (.ref A.c_NotOnlyRounds) (.ref A.c_NoDeeds) = some false
  ex_NotOnlyRounds_NotOnlyRounds : PySem.W.exmOne K (.ref A.c_NotOnlyRounds) (.ref A.c_NotOnlyRounds) = some true
  ex_NotOnlyRounds_FullRecording : PySem.W.exmOne K (.ref A.c_NotOnlyRounds) (.ref A.c_FullRecording) = some false
  ex_NotOnlyRounds_TellsTooMuch : PySem.W.exmOne K (.ref A.c_NotOnlyRounds) (.ref A.c_TellsTooMuch) = some false
  ex_FullRecording_NotWhole : PySem.W.exmOne K (.ref A.c_FullRecording) (.ref A.c_NotWhole) = some false
  ex_FullRecording_NoDeeds : PySem.W.exmOne K (.ref A.c_FullRecording) (.ref A.c_NoDeeds) = some false
  ex_FullRecording_NotOnlyRounds : PySem.W.exmOne K (.ref A.c_FullRecording) (.ref A.c_NotOnlyRounds) = some false
  ex_FullRecording_FullRecording : PySem.W.exmOne K (.ref A.c_FullRecording) (.ref A.c_FullRecording) = some true
  ex_FullRecording_TellsTooMuch : PySem.W.exmOne K (.ref A.c_FullRecording) (.ref A.c_TellsTooMuch) = some false
  ex_TellsTooMuch_NotWhole : PySem.W.exmOne K (.ref A.c_TellsTooMuch) (.ref A.c_NotWhole) = some false
  ex_TellsTooMuch_NoDeeds : PySem.W.exmOne K (.ref A.c_TellsTooMuch) (.ref A.c_NoDeeds) = some false
  ex_TellsTooMuch_NotOnlyRounds : PySem.W.exmOne K (.ref A.c_TellsTooMuch) (.ref A.c_NotOnlyRounds) = some false
  ex_TellsTooMuch_FullRecording : PySem.W.exmOne K (.ref A.c_TellsTooMuch) (.ref A.c_FullRecording) = some false
  ex_TellsTooMuch_TellsTooMuch : PySem.W.exmOne K (.ref A.c_TellsTooMuch) (.ref A.c_TellsTooMuch) = some true
  g_Reader : mg "Reader" = some (.ref A.c_Reader)
  cl_Reader : Cls K A.c_Reader
  mk_Reader : Mk K A.c_Reader A.f_Reader_init
  na_Reader_numbers : NoAttr K A.c_Reader "numbers"
  na_Reader_place : NoAttr K A.c_Reader "place"
  d_Reader_init : Dft K "__init__" "Reader.__init__" s_Reader_init ["self", "numbers"] A.f_Reader_init
  d_Reader_take : Dft K "take" "Reader.take" s_Reader_take ["self", "lowest", "highest"] A.f_Reader_take
  me_Reader_take : Meth K A.c_Reader "take" A.f_Reader_take
  d_Reader_finish : Dft K "finish" "Reader.finish" s_Reader_finish ["self"] A.f_Reader_finish
  me_Reader_finish : Meth K A.c_Reader "finish" A.f_Reader_finish
  g_DeedPiece : mg "DeedPiece" = some (.ref A.c_DeedPiece)
  cl_DeedPiece : Cls K A.c_DeedPiece
  mk_DeedPiece : Mk K A.c_DeedPiece A.f_DeedPiece_init
  na_DeedPiece_deed : NoAttr K A.c_DeedPiece "deed"
  na_DeedPiece_step : NoAttr K A.c_DeedPiece "step"
  d_DeedPiece_init : Dft K "__init__" "DeedPiece.__init__" s_DeedPiece_init ["self", "deed", "step"] A.f_DeedPiece_init
  g_LoopPiece : mg "LoopPiece" = some (.ref A.c_LoopPiece)
  cl_LoopPiece : Cls K A.c_LoopPiece
  mk_LoopPiece : Mk K A.c_LoopPiece A.f_LoopPiece_init
  na_LoopPiece_rounds : NoAttr K A.c_LoopPiece "rounds"
  na_LoopPiece_row : NoAttr K A.c_LoopPiece "row"
  d_LoopPiece_init : Dft K "__init__" "LoopPiece.__init__" s_LoopPiece_init ["self", "rounds", "row"] A.f_LoopPiece_init
  g_TableBoundPiece : mg "TableBoundPiece" = some (.ref A.c_TableBoundPiece)
  cl_TableBoundPiece : Cls K A.c_TableBoundPiece
  mk_TableBoundPiece : Mk K A.c_TableBoundPiece A.f_TableBoundPiece_init
  na_TableBoundPiece_row : NoAttr K A.c_TableBoundPiece "row"
  d_TableBoundPiece_init : Dft K "__init__" "TableBoundPiece.__init__" s_TableBoundPiece_init ["self", "row"] A.f_TableBoundPiece_init
  g_Stretch : mg "Stretch" = some (.ref A.c_Stretch)
  cl_Stretch : Cls K A.c_Stretch
  mk_Stretch : Mk K A.c_Stretch A.f_Stretch_init
  na_Stretch_deeds : NoAttr K A.c_Stretch "deeds"
  na_Stretch_start : NoAttr K A.c_Stretch "start"
  na_Stretch_length : NoAttr K A.c_Stretch "length"
  na_Stretch_rounds : NoAttr K A.c_Stretch "rounds"
  na_Stretch_deep : NoAttr K A.c_Stretch "deep"
  d_Stretch_init : Dft K "__init__" "Stretch.__init__" s_Stretch_init ["self", "deeds", "start", "length", "rounds", "deep"] A.f_Stretch_init
  g_Folded : mg "Folded" = some (.ref A.c_Folded)
  cl_Folded : Cls K A.c_Folded
  mk_Folded : Mk K A.c_Folded A.f_Folded_init
  na_Folded_ways : NoAttr K A.c_Folded "ways"
  na_Folded_row : NoAttr K A.c_Folded "row"
  na_Folded_pieces : NoAttr K A.c_Folded "pieces"
  na_Folded_width : NoAttr K A.c_Folded "width"
  d_Folded_init : Dft K "__init__" "Folded.__init__" s_Folded_init ["self", "ways", "row", "pieces", "width"] A.f_Folded_init
  g_Guess : mg "Guess" = some (.ref A.c_Guess)
  cl_Guess : Cls K A.c_Guess
  mk_Guess : Mk K A.c_Guess A.f_Guess_init
  na_Guess_period : NoAttr K A.c_Guess "period"
  na_Guess_tail : NoAttr K A.c_Guess "tail"
  na_Guess_deed : NoAttr K A.c_Guess "deed"
  d_Guess_init : Dft K "__init__" "Guess.__init__" s_Guess_init ["self", "period", "tail", "deed"] A.f_Guess_init
  g_Table : mg "Table" = some (.ref A.c_Table)
  cl_Table : Cls K A.c_Table
  mk_Table : Mk K A.c_Table A.f_Table_init
  na_Table_rows : NoAttr K A.c_Table "rows"
  na_Table_cursor : NoAttr K A.c_Table "cursor"
  na_Table_clipboard : NoAttr K A.c_Table "clipboard"
  d_Table_init : Dft K "__init__" "Table.__init__" s_Table_init ["self", "rows", "cursor", "clipboard"] A.f_Table_init
  g_Recording : mg "Recording" = some (.ref A.c_Recording)
  cl_Recording : Cls K A.c_Recording
  mk_Recording : Mk K A.c_Recording A.f_Recording_init
  na_Recording_deeds : NoAttr K A.c_Recording "deeds"
  d_Recording_init : Dft K "__init__" "Recording.__init__" s_Recording_init ["self"] A.f_Recording_init
  d_Recording_record : Dft K "record" "Recording.record" s_Recording_record ["self", "numbers"] A.f_Recording_record
  me_Recording_record : Meth K A.c_Recording "record" A.f_Recording_record
  d_Recording_add : Dft K "add" "Recording.add" s_Recording_add ["self", "numbers"] A.f_Recording_add
  me_Recording_add : Meth K A.c_Recording "add" A.f_Recording_add
  d_Recording_drop : Dft K "drop" "Recording.drop" s_Recording_drop ["self"] A.f_Recording_drop
  me_Recording_drop : Meth K A.c_Recording "drop" A.f_Recording_drop
  d_Recording_count : Dft K "count" "Recording.count" s_Recording_count ["self"] A.f_Recording_count
  me_Recording_count : Meth K A.c_Recording "count" A.f_Recording_count
  d_Recording_least : Dft K "least" "Recording.least" s_Recording_least ["self"] A.f_Recording_least
  me_Recording_least : Meth K A.c_Recording "least" A.f_Recording_least
  d_Recording_is_it : Dft K "is_it" "Recording.is_it" s_Recording_is_it ["self", "numbers"] A.f_Recording_is_it
  me_Recording_is_it : Meth K A.c_Recording "is_it" A.f_Recording_is_it
  d_Recording_unroll : Dft K "unroll" "Recording.unroll" s_Recording_unroll ["self", "numbers"] A.f_Recording_unroll
  me_Recording_unroll : Meth K A.c_Recording "unroll" A.f_Recording_unroll
  d_Recording_next_one : Dft K "next_one" "Recording.next_one" s_Recording_next_one ["self"] A.f_Recording_next_one
  me_Recording_next_one : Meth K A.c_Recording "next_one" A.f_Recording_next_one
  d_Recording_loops : Dft K "loops" "Recording.loops" s_Recording_loops ["self"] A.f_Recording_loops
  me_Recording_loops : Meth K A.c_Recording "loops" A.f_Recording_loops
  d_Recording_play : Dft K "play" "Recording.play" s_Recording_play ["self", "numbers"] A.f_Recording_play
  me_Recording_play : Meth K A.c_Recording "play" A.f_Recording_play
  d_Recording_told : Dft K "told" "Recording.told" s_Recording_told ["self"] A.f_Recording_told
  me_Recording_told : Meth K A.c_Recording "told" A.f_Recording_told
  is_DeedPiece : Isi K A.c_DeedPiece
  ki_DeedPiece_DeedPiece : PySem.W.kitOne K (.ref A.c_DeedPiece) (.ref A.c_DeedPiece) = some true
  ki_DeedPiece_LoopPiece : PySem.W.kitOne K (.ref A.c_DeedPiece) (.ref A.c_LoopPiece) = some false
  ki_DeedPiece_TableBoundPiece : PySem.W.kitOne K (.ref A.c_DeedPiece) (.ref A.c_TableBoundPiece) = some false
  is_LoopPiece : Isi K A.c_LoopPiece
  ki_LoopPiece_DeedPiece : PySem.W.kitOne K (.ref A.c_LoopPiece) (.ref A.c_DeedPiece) = some false
  ki_LoopPiece_LoopPiece : PySem.W.kitOne K (.ref A.c_LoopPiece) (.ref A.c_LoopPiece) = some true
  ki_LoopPiece_TableBoundPiece : PySem.W.kitOne K (.ref A.c_LoopPiece) (.ref A.c_TableBoundPiece) = some false
  is_TableBoundPiece : Isi K A.c_TableBoundPiece
  ki_TableBoundPiece_DeedPiece : PySem.W.kitOne K (.ref A.c_TableBoundPiece) (.ref A.c_DeedPiece) = some false
  ki_TableBoundPiece_LoopPiece : PySem.W.kitOne K (.ref A.c_TableBoundPiece) (.ref A.c_LoopPiece) = some false
  ki_TableBoundPiece_TableBoundPiece : PySem.W.kitOne K (.ref A.c_TableBoundPiece) (.ref A.c_TableBoundPiece) = some true
  g_has_number : mg "has_number" = some (.ref A.f_has_number)
  d_has_number : Dft K "has_number" "has_number" s_has_number ["deed"] A.f_has_number
  g_number_of : mg "number_of" = some (.ref A.f_number_of)
  d_number_of : Dft K "number_of" "number_of" s_number_of ["deed"] A.f_number_of
  g_deed_at_round : mg "deed_at_round" = some (.ref A.f_deed_at_round)
  d_deed_at_round : Dft K "deed_at_round" "deed_at_round" s_deed_at_round ["deed", "step", "round_number"] A.f_deed_at_round
  g_step_between : mg "step_between" = some (.ref A.f_step_between)
  d_step_between : Dft K "step_between" "step_between" s_step_between ["first", "second"] A.f_step_between
  g_read_deed : mg "read_deed" = some (.ref A.f_read_deed)
  d_read_deed : Dft K "read_deed" "read_deed" s_read_deed ["reader"] A.f_read_deed
  g_whole_deed : mg "whole_deed" = some (.ref A.f_whole_deed)
  d_whole_deed : Dft K "whole_deed" "whole_deed" s_whole_deed ["numbers"] A.f_whole_deed
  g_whole_deeds : mg "whole_deeds" = some (.ref A.f_whole_deeds)
  d_whole_deeds : Dft K "whole_deeds" "whole_deeds" s_whole_deeds ["numbers"] A.f_whole_deeds
  g_deeds_as_numbers : mg "deeds_as_numbers" = some (.ref A.f_deeds_as_numbers)
  d_deeds_as_numbers : Dft K "deeds_as_numbers" "deeds_as_numbers" s_deeds_as_numbers ["deeds"] A.f_deeds_as_numbers
  g_read_piece : mg "read_piece" = some (.ref A.f_read_piece)
  d_read_piece : Dft K "read_piece" "read_piece" s_read_piece ["reader", "deep"] A.f_read_piece
  g_read_row : mg "read_row" = some (.ref A.f_read_row)
  d_read_row : Dft K "read_row" "read_row" s_read_row ["reader", "deep"] A.f_read_row
  g_count_pieces : mg "count_pieces" = some (.ref A.f_count_pieces)
  d_count_pieces : Dft K "count_pieces" "count_pieces" s_count_pieces ["row"] A.f_count_pieces
  g_whole_program : mg "whole_program" = some (.ref A.f_whole_program)
  d_whole_program : Dft K "whole_program" "whole_program" s_whole_program ["numbers"] A.f_whole_program
  g_is_table_bound : mg "is_table_bound" = some (.ref A.f_is_table_bound)
  d_is_table_bound : Dft K "is_table_bound" "is_table_bound" s_is_table_bound ["row"] A.f_is_table_bound
  g_tell : mg "tell" = some (.ref A.f_tell)
  d_tell : Dft K "tell" "tell" s_tell ["row", "round_number"] A.f_tell
  g_count_told : mg "count_told" = some (.ref A.f_count_told)
  d_count_told : Dft K "count_told" "count_told" s_count_told ["row"] A.f_count_told
  g_told_by : mg "told_by" = some (.ref A.f_told_by)
  d_told_by : Dft K "told_by" "told_by" s_told_by ["numbers"] A.f_told_by
  g_row_as_numbers : mg "row_as_numbers" = some (.ref A.f_row_as_numbers)
  d_row_as_numbers : Dft K "row_as_numbers" "row_as_numbers" s_row_as_numbers ["row"] A.f_row_as_numbers
  g_fold : mg "fold" = some (.ref A.f_fold)
  d_fold : Dft K "fold" "fold" s_fold ["deeds"] A.f_fold
  g_fold_stretch : mg "fold_stretch" = some (.ref A.f_fold_stretch)
  d_fold_stretch : Dft K "fold_stretch" "fold_stretch" s_fold_stretch ["stretch"] A.f_fold_stretch
  g_fold_left : mg "fold_left" = some (.ref A.f_fold_left)
  d_fold_left : Dft K "fold_left" "fold_left" s_fold_left ["firsts", "folded", "left"] A.f_fold_left
  g_deed_choices : mg "deed_choices" = some (.ref A.f_deed_choices)
  d_deed_choices : Dft K "deed_choices" "deed_choices" s_deed_choices ["stretch", "place"] A.f_deed_choices
  g_loop_choices : mg "loop_choices" = some (.ref A.f_loop_choices)
  d_loop_choices : Dft K "loop_choices" "loop_choices" s_loop_choices ["stretch", "place", "left"] A.f_loop_choices
  g_is_same_each_round : mg "is_same_each_round" = some (.ref A.f_is_same_each_round)
  d_is_same_each_round : Dft K "is_same_each_round" "is_same_each_round" s_is_same_each_round ["stretch", "place", "width"] A.f_is_same_each_round
  g_most_rounds : mg "most_rounds" = some (.ref A.f_most_rounds)
  d_most_rounds : Dft K "most_rounds" "most_rounds" s_most_rounds ["deeds", "place", "length"] A.f_most_rounds
  g_plain_loops : mg "plain_loops" = some (.ref A.f_plain_loops)
  d_plain_loops : Dft K "plain_loops" "plain_loops" s_plain_loops ["deeds"] A.f_plain_loops
  g_goes_along : mg "goes_along" = some (.ref A.f_goes_along)
  d_goes_along : Dft K "goes_along" "goes_along" s_goes_along ["deeds", "place", "period"] A.f_goes_along
  g_tail_of : mg "tail_of" = some (.ref A.f_tail_of)
  d_tail_of : Dft K "tail_of" "tail_of" s_tail_of ["deeds", "period"] A.f_tail_of
  g_does_count : mg "does_count" = some (.ref A.f_does_count)
  d_does_count : Dft K "does_count" "does_count" s_does_count ["period", "tail"] A.f_does_count
  g_deed_behind : mg "deed_behind" = some (.ref A.f_deed_behind)
  d_deed_behind : Dft K "deed_behind" "deed_behind" s_deed_behind ["deeds", "period", "tail"] A.f_deed_behind
  g_guess_next : mg "guess_next" = some (.ref A.f_guess_next)
  d_guess_next : Dft K "guess_next" "guess_next" s_guess_next ["deeds"] A.f_guess_next
  g_read_value : mg "read_value" = some (.ref A.f_read_value)
  d_read_value : Dft K "read_value" "read_value" s_read_value ["reader"] A.f_read_value
  g_whole_table : mg "whole_table" = some (.ref A.f_whole_table)
  d_whole_table : Dft K "whole_table" "whole_table" s_whole_table ["numbers"] A.f_whole_table
  g_table_as_numbers : mg "table_as_numbers" = some (.ref A.f_table_as_numbers)
  d_table_as_numbers : Dft K "table_as_numbers" "table_as_numbers" s_table_as_numbers ["table"] A.f_table_as_numbers
  g_found_below : mg "found_below" = some (.ref A.f_found_below)
  d_found_below : Dft K "found_below" "found_below" s_found_below ["table", "field", "number"] A.f_found_below
  g_new_value : mg "new_value" = some (.ref A.f_new_value)
  d_new_value : Dft K "new_value" "new_value" s_new_value ["table", "deed"] A.f_new_value
  g_fault_of : mg "fault_of" = some (.ref A.f_fault_of)
  d_fault_of : Dft K "fault_of" "fault_of" s_fault_of ["table", "deed"] A.f_fault_of
  g_do_deed : mg "do_deed" = some (.ref A.f_do_deed)
  d_do_deed : Dft K "do_deed" "do_deed" s_do_deed ["table", "deed"] A.f_do_deed
  g_run_deeds : mg "run_deeds" = some (.ref A.f_run_deeds)
  d_run_deeds : Dft K "run_deeds" "run_deeds" s_run_deeds ["table", "deeds"] A.f_run_deeds
  g_compare : mg "compare" = some (.ref A.f_compare)
  d_compare : Dft K "compare" "compare" s_compare ["told", "deeds"] A.f_compare
  g_do_call : mg "do_call" = some (.ref A.f_do_call)
  d_do_call : Dft K "do_call" "do_call" s_do_call ["recording", "call", "numbers"] A.f_do_call
  g_answer : mg "answer" = some (.ref A.f_answer)
  d_answer : Dft K "answer" "answer" s_answer ["recording", "call", "numbers"] A.f_answer
  g_answers : mg "answers" = some (.ref A.f_answers)
  d_answers : Dft K "answers" "answers" s_answers ["calls"] A.f_answers
  i_DOWN : ∃ t, mg "DOWN" = some (.int 0 t)
  i_UP : ∃ t, mg "UP" = some (.int 1 t)
  i_TOP : ∃ t, mg "TOP" = some (.int 2 t)
  i_WRITE : ∃ t, mg "WRITE" = some (.int 3 t)
  i_ADD_deeds : ∃ t, mg "ADD_deeds" = some (.int 4 t)
  i_COPY : ∃ t, mg "COPY" = some (.int 5 t)
  i_PASTE : ∃ t, mg "PASTE" = some (.int 6 t)
  i_DELETE : ∃ t, mg "DELETE" = some (.int 7 t)
  i_DOUBLE : ∃ t, mg "DOUBLE" = some (.int 8 t)
  i_FIND : ∃ t, mg "FIND" = some (.int 9 t)
  g_KINDS_WITH_FIELD : mg "KINDS_WITH_FIELD" = some (.ref A.t_KINDS_WITH_FIELD)
  v_KINDS_WITH_FIELD : ∀ H : Hp, SqT K H A.t_KINDS_WITH_FIELD [.int 3, .int 4, .int 5, .int 6, .int 9]
  g_KINDS_WITH_NUMBER : mg "KINDS_WITH_NUMBER" = some (.ref A.t_KINDS_WITH_NUMBER)
  v_KINDS_WITH_NUMBER : ∀ H : Hp, SqT K H A.t_KINDS_WITH_NUMBER [.int 3, .int 4, .int 9]
  i_LAST_FIELD : ∃ t, mg "LAST_FIELD" = some (.int 2 t)
  i_MOST_NUMBER : ∃ t, mg "MOST_NUMBER" = some (.int 999 t)
  i_MOST_DEEDS : ∃ t, mg "MOST_DEEDS" = some (.int 14 t)
  i_DEED : ∃ t, mg "DEED" = some (.int 0 t)
  i_LOOP : ∃ t, mg "LOOP" = some (.int 1 t)
  i_PART : ∃ t, mg "PART" = some (.int 3 t)
  i_MOST_ROUNDS : ∃ t, mg "MOST_ROUNDS" = some (.int 9 t)
  i_MOST_PIECES : ∃ t, mg "MOST_PIECES" = some (.int 16 t)
  i_MOST_DEEP : ∃ t, mg "MOST_DEEP" = some (.int 3 t)
  i_MOST_TOLD : ∃ t, mg "MOST_TOLD" = some (.int 60 t)
  i_MOST_LOOPS_DEEP : ∃ t, mg "MOST_LOOPS_DEEP" = some (.int 2 t)
  i_MOST_ROWS : ∃ t, mg "MOST_ROWS" = some (.int 8 t)
  i_WELL : ∃ t, mg "WELL" = some (.int 0 t)
  i_NO_ROW_HERE : ∃ t, mg "NO_ROW_HERE" = some (.int 1 t)
  i_AT_ROW_0 : ∃ t, mg "AT_ROW_0" = some (.int 2 t)
  i_BEYOND_999 : ∃ t, mg "BEYOND_999" = some (.int 3 t)
  i_ROWS_FULL : ∃ t, mg "ROWS_FULL" = some (.int 4 t)
  i_NONE_FOUND : ∃ t, mg "NONE_FOUND" = some (.int 5 t)
  i_RECORD : ∃ t, mg "RECORD" = some (.int 0 t)
  i_ADD_recording : ∃ t, mg "ADD_recording" = some (.int 1 t)
  i_DROP : ∃ t, mg "DROP" = some (.int 2 t)
  i_COUNT : ∃ t, mg "COUNT" = some (.int 3 t)
  i_LEAST : ∃ t, mg "LEAST" = some (.int 4 t)
  i_IS_IT : ∃ t, mg "IS_IT" = some (.int 5 t)
  i_UNROLL : ∃ t, mg "UNROLL" = some (.int 6 t)
  i_NEXT_ONE : ∃ t, mg "NEXT_ONE" = some (.int 7 t)
  i_LOOPS : ∃ t, mg "LOOPS" = some (.int 8 t)
  i_PLAY : ∃ t, mg "PLAY" = some (.int 9 t)
  z_abs : mg "abs" = none
  z_isinstance : mg "isinstance" = none
  z_len : mg "len" = none
  z_list : mg "list" = none
  z_min : mg "min" = none
  z_range : mg "range" = none
end Lf

set_option Elab.async false
set_option linter.all false
set_option maxRecDepth 100000
set_option maxHeartbeats 4000000
/-! # How deeds, pieces, rows lie in a heap -/
namespace Lf
open PySem PySem.Spec PyProof.Rows L2
open VamacBase (Deed Prog)

/-- a deed: a tuple of its numbers -/
def deedV (d : Deed) : List V := (VamacBase.flatDeed d).map V.int
def DeedAt (G : Hp) (v : V) (d : Deed) : Prop := ∃ p, v = .ref p ∧ G p = some (.tup (deedV d))
theorem DeedAt.mono {G G' : Hp} {v : V} {d : Deed} (s : Same G G') : DeedAt G v d → DeedAt G' v d := fun ⟨p, e, h⟩ => ⟨p, e, s _ _ h⟩
/-- deeds: a list of such tuples -/
def DeedsAt (G : Hp) (p : Addr) (ds : List Deed) : Prop := ∃ vs, G p = some (.lst vs) ∧ All2 (DeedAt G) vs ds
theorem All2.deeds {G G' : Hp} {vs : List V} {ds : List Deed} (s : Same G G') (h : All2 (DeedAt G) vs ds) : All2 (DeedAt G') vs ds := h.imp fun _ _ => DeedAt.mono s
theorem DeedsAt.mono {G G' : Hp} {p : Addr} {ds : List Deed} (s : Same G G') : DeedsAt G p ds → DeedsAt G' p ds := fun ⟨vs, h, a⟩ => ⟨vs, s _ _ h, a.deeds s⟩

def PiecesAt (A : Ad) (G : Hp) : Prog → List V → Prop
  | .done, vs => vs = []
  | .deed d s r, vs => ∃ p dx w vs', vs = .ref p :: vs' ∧ G p = some (.ins A.c_DeedPiece dx [("deed", w), ("step", .int s)]) ∧ DeedAt G w d ∧ PiecesAt A G r vs'
  | .times n b r, vs => ∃ p dx q ws vs', vs = .ref p :: vs' ∧ G p = some (.ins A.c_LoopPiece dx [("rounds", .int n), ("row", .ref q)]) ∧ G q = some (.lst ws) ∧ PiecesAt A G b ws ∧ PiecesAt A G r vs'
  | .toEnd b r, vs => ∃ p dx q ws vs', vs = .ref p :: vs' ∧ G p = some (.ins A.c_TableBoundPiece dx [("row", .ref q)]) ∧ G q = some (.lst ws) ∧ PiecesAt A G b ws ∧ PiecesAt A G r vs'
  | .when _ _ b r, vs => ∃ p dx q ws vs', vs = .ref p :: vs' ∧ G p = some (.ins A.c_TableBoundPiece dx [("row", .ref q)]) ∧ G q = some (.lst ws) ∧ PiecesAt A G b ws ∧ PiecesAt A G r vs'
/-- a row of pieces -/
def RowAt (A : Ad) (G : Hp) (q : Addr) (p : Prog) : Prop := ∃ ws, G q = some (.lst ws) ∧ PiecesAt A G p ws
/-- a piece -/
def PieceAt (A : Ad) (G : Hp) (v : V) : Piece → Prop
  | .deed d s => ∃ p dx w, v = .ref p ∧ G p = some (.ins A.c_DeedPiece dx [("deed", w), ("step", .int s)]) ∧ DeedAt G w d
  | .times n b => ∃ p dx q, v = .ref p ∧ G p = some (.ins A.c_LoopPiece dx [("rounds", .int n), ("row", .ref q)]) ∧ RowAt A G q b
  | .toEnd b => ∃ p dx q, v = .ref p ∧ G p = some (.ins A.c_TableBoundPiece dx [("row", .ref q)]) ∧ RowAt A G q b
  | .when _ _ b => ∃ p dx q, v = .ref p ∧ G p = some (.ins A.c_TableBoundPiece dx [("row", .ref q)]) ∧ RowAt A G q b
section
variable {A : Ad} {G G' : Hp}
theorem pieces_to : ∀ {p : Prog} {vs : List V}, PiecesAt A G p vs → All2 (PieceAt A G) vs (pieces p)
  | .done, vs, h => by
    cases (show vs = [] from h)
    exact .nil
  | .deed d s r, vs, h => by
    obtain ⟨p, dx, w, vs', rfl, h1, h2, h3⟩ := h
    exact .cons ⟨p, dx, w, rfl, h1, h2⟩ (pieces_to h3)
  | .times n b r, vs, h => by
    obtain ⟨p, dx, q, ws, vs', rfl, h1, h2, h3, h4⟩ := h
    exact .cons ⟨p, dx, q, rfl, h1, ws, h2, h3⟩ (pieces_to h4)
  | .toEnd b r, vs, h => by
    obtain ⟨p, dx, q, ws, vs', rfl, h1, h2, h3, h4⟩ := h
    exact .cons ⟨p, dx, q, rfl, h1, ws, h2, h3⟩ (pieces_to h4)
  | .when _ _ b r, vs, h => by
    obtain ⟨p, dx, q, ws, vs', rfl, h1, h2, h3, h4⟩ := h
    exact .cons ⟨p, dx, q, rfl, h1, ws, h2, h3⟩ (pieces_to h4)
theorem pieces_from : ∀ {l : List Piece} {vs : List V}, All2 (PieceAt A G) vs l → PiecesAt A G (ofPieces l) vs
  | [], vs, h => by
    cases h
    rfl
  | .deed d s :: l, vs, h => by
    cases h with
    | cons h t =>
      obtain ⟨p, dx, w, rfl, h1, h2⟩ := h
      exact ⟨p, dx, w, _, rfl, h1, h2, pieces_from t⟩
  | .times n b :: l, vs, h => by
    cases h with
    | cons h t =>
      obtain ⟨p, dx, q, rfl, h1, ws, h2, h3⟩ := h
      exact ⟨p, dx, q, ws, _, rfl, h1, h2, h3, pieces_from t⟩
  | .toEnd b :: l, vs, h => by
    cases h with
    | cons h t =>
      obtain ⟨p, dx, q, rfl, h1, ws, h2, h3⟩ := h
      exact ⟨p, dx, q, ws, _, rfl, h1, h2, h3, pieces_from t⟩
  | .when _ _ b :: l, vs, h => by
    cases h with
    | cons h t =>
      obtain ⟨p, dx, q, rfl, h1, ws, h2, h3⟩ := h
      exact ⟨p, dx, q, ws, _, rfl, h1, h2, h3, pieces_from t⟩
theorem row_from {q : Addr} {l : List Piece} {vs : List V} (h : G q = some (.lst vs)) (a : All2 (PieceAt A G) vs l) : RowAt A G q (ofPieces l) := ⟨vs, h, pieces_from a⟩
theorem row_to {q : Addr} {p : Prog} (h : RowAt A G q p) : ∃ vs, G q = some (.lst vs) ∧ All2 (PieceAt A G) vs (pieces p) := by
  obtain ⟨vs, h1, h2⟩ := h
  exact ⟨vs, h1, pieces_to h2⟩
theorem PiecesAt.mono (s : Same G G') : ∀ {p : Prog} {vs : List V}, PiecesAt A G p vs → PiecesAt A G' p vs
  | .done, vs, h => h
  | .deed d s' r, vs, h => by
    obtain ⟨p, dx, w, vs', rfl, h1, h2, h3⟩ := h
    exact ⟨p, dx, w, vs', rfl, s _ _ h1, h2.mono s, PiecesAt.mono s h3⟩
  | .times n b r, vs, h => by
    obtain ⟨p, dx, q, ws, vs', rfl, h1, h2, h3, h4⟩ := h
    exact ⟨p, dx, q, ws, vs', rfl, s _ _ h1, s _ _ h2, PiecesAt.mono s h3, PiecesAt.mono s h4⟩
  | .toEnd b r, vs, h => by
    obtain ⟨p, dx, q, ws, vs', rfl, h1, h2, h3, h4⟩ := h
    exact ⟨p, dx, q, ws, vs', rfl, s _ _ h1, s _ _ h2, PiecesAt.mono s h3, PiecesAt.mono s h4⟩
  | .when _ _ b r, vs, h => by
    obtain ⟨p, dx, q, ws, vs', rfl, h1, h2, h3, h4⟩ := h
    exact ⟨p, dx, q, ws, vs', rfl, s _ _ h1, s _ _ h2, PiecesAt.mono s h3, PiecesAt.mono s h4⟩
theorem RowAt.mono (s : Same G G') {q : Addr} {p : Prog} : RowAt A G q p → RowAt A G' q p := fun ⟨ws, h, a⟩ => ⟨ws, s _ _ h, a.mono s⟩
theorem PieceAt.mono (s : Same G G') {v : V} : ∀ {u : Piece}, PieceAt A G v u → PieceAt A G' v u
  | .deed d s', ⟨p, dx, w, e, h1, h2⟩ => ⟨p, dx, w, e, s _ _ h1, h2.mono s⟩
  | .times n b, ⟨p, dx, q, e, h1, h2⟩ => ⟨p, dx, q, e, s _ _ h1, h2.mono s⟩
  | .toEnd b, ⟨p, dx, q, e, h1, h2⟩ => ⟨p, dx, q, e, s _ _ h1, h2.mono s⟩
  | .when _ _ b, ⟨p, dx, q, e, h1, h2⟩ => ⟨p, dx, q, e, s _ _ h1, h2.mono s⟩
theorem All2.pieces {vs : List V} {l : List Piece} (s : Same G G') (h : All2 (PieceAt A G) vs l) : All2 (PieceAt A G') vs l := h.imp fun _ _ => PieceAt.mono s
end
/-- a reader at a: x is what it has still to read -/
def Rdr (A : Ad) (G H : Hp) (a : Addr) (x : List Int) : Prop := ∃ (dx n : Addr) (ns : List Int) (i : Nat), H a = some (.ins A.c_Reader dx [("numbers", .ref n), ("place", .int i)]) ∧ G n = some (.lst (ns.map V.int)) ∧ ns.drop i = x ∧ i ≤ ns.length ∧ G a = none
theorem Rdr.mono {A : Ad} {G H G' H' : Hp} {a : Addr} {x : List Int} (h : Rdr A G H a x) (s : Same G G') (k : ∀ o, H a = some o → H' a = some o) (f : G a = none → G' a = none) : Rdr A G' H' a x := by
  obtain ⟨dx, n, ns, i, h1, h2, h3, h4, h5⟩ := h
  exact ⟨dx, n, ns, i, k _ h1, s _ _ h2, h3, h4, f h5⟩
end Lf

set_option Elab.async false
set_option linter.all false
set_option maxRecDepth 100000
set_option maxHeartbeats 4000000
/-! # The defs of reading -/
namespace Lf
open PySem PySem.Spec PyProof.Rows L2
open VamacBase (Deed Prog)

def spTake (A : Ad) : Sp := fun vs H Q E => ∃ (G : Hp) (a : Addr) (lo hi : Int) (x : List Int), vs = [.ref a, .int lo, .int hi] ∧ Same G H ∧ Rdr A G H a x ∧
  (take lo hi x = none → E (.ref A.c_NotWhole) none H) ∧ ∀ z r, take lo hi x = some (z, r) → ∀ H', Ext G H G H' (· = a) → Rdr A G H' a r → Q (.int z) H'
def spFinish (A : Ad) : Sp := fun vs H Q E => ∃ (G : Hp) (a : Addr) (x : List Int), vs = [.ref a] ∧ Same G H ∧ Rdr A G H a x ∧
  (x ≠ [] → E (.ref A.c_NotWhole) none H) ∧ (x = [] → Q .non H)
section
variable {P : Program} {w : World} {K : PySem.W.Frag} {mg : Str → Option Value} {base : Heap} {A : Ad}
theorem ok_Reader_init (T : Txt K mg A) : Okf P w K mg base CX0 1 A.f_Reader_init ["self", "numbers"] (fun vs H Q _ => ∃ (p dx : Addr) (v : V), vs = [.ref p, v] ∧ H p = some (.ins A.c_Reader dx []) ∧ Q .non (upd H p (.ins A.c_Reader dx [("numbers", v), ("place", .int 0)]))) := by
  obtain ⟨fd, F, b⟩ := T.d_Reader_init
  refine ⟨fd, F.ok sc_Reader_init (fun vs H Q E h => ?_) (fun cdv AA outer s H vs Q E hr h => ?_), b, F.kp⟩
  · obtain ⟨p, dx, v, rfl, _⟩ := h
    rfl
  obtain ⟨p, dx, v, rfl, hp, q⟩ := h
  refine ⟨_, (pss_cons (ps_fld (pv 0) (pv 1) rfl)
      (pss_one (ps_fld (pv 0) pe_int rfl))), ?_⟩
  refine ⟨_, rfl, _, rfl, p, _, dx, _, rfl, hp, T.cl_Reader, T.na_Reader_numbers, (by show 0 < 1000; decide), ?_⟩
  refine ⟨_, rfl, p, _, dx, _, rfl, upd_same, T.cl_Reader, T.na_Reader_place, (by show 1 < 1000; decide), ?_⟩
  rw [upd_upd]
  exact q
theorem take_nil {lo hi : Int} : take lo hi [] = none := rfl
theorem take_in {lo hi z : Int} {r : List Int} (h : lo ≤ z ∧ z ≤ hi) : take lo hi (z :: r) = some (z, r) := if_pos h
theorem take_out {lo hi z : Int} {r : List Int} (h : ¬ (lo ≤ z ∧ z ≤ hi)) : take lo hi (z :: r) = none := if_neg h
theorem ok_Reader_take (T : Txt K mg A) : Okf P w K mg base (L2.CX P w) 1 A.f_Reader_take ["self", "lowest", "highest"] (spTake A) := by
  obtain ⟨fd, F, b⟩ := T.d_Reader_take
  refine ⟨fd, F.okX sc_Reader_take (fun vs H Q E h => ?_) (fun cdv AA outer s H vs Q E hr h => ?_), b, F.kp⟩
  · obtain ⟨G, a, lo, hi, x, rfl, _⟩ := h
    rfl
  obtain ⟨G, a, lo, hi, x, rfl, hS, ⟨dx, n, ns, i, h1, h2, h3, h4, h5⟩, kN, kS⟩ := h
  refine ⟨_, (pss_cons (ps_if (pt_cmpR op_ge (pe_fld (pv 0) rfl) (pe_callB call_len_seq (by rfl) T.z_len PySem.boot_len (pa_cons (pe_fld (pv 0) rfl) pa_nil)) (nomark _)) (pss_one (ps_raise rfl (takes_of rfl rfl rfl rfl) (pmk_own0 PySem.F.excBase_Exception T.er_NotWhole.x T.er_NotWhole.g T.er_NotWhole.k (raises_own T.er_NotWhole.b T.er_NotWhole.t) (by exact rfl)))) pss_nil)
      (pss_cons (ps_set (i := 3) sc_Reader_take.nd rfl (Or.inl rfl) (pe_ix ix_list (pe_fld (pv 0) rfl) (pe_fld (pv 0) rfl) (fun _ _ => rfl)))
      (pss_cons (ps_if (PW.pt (pw_or (pt_cmpR op_lt (pv 3) (pv 1) (nomark _)) (pw_or1 (pt_cmpR op_gt (pv 3) (pv 2) (nomark _))))) (pss_one (ps_raise rfl (takes_of rfl rfl rfl rfl) (pmk_own0 PySem.F.excBase_Exception T.er_NotWhole.x T.er_NotWhole.g T.er_NotWhole.k (raises_own T.er_NotWhole.b T.er_NotWhole.t) (by exact rfl)))) pss_nil)
      (pss_cons (ps_fld (pv 0) (pe_op op_add (pe_fld (pv 0) rfl) pe_int) rfl)
      (pss_one (ps_ret (pv 3))))))), ?_⟩
  have hL : SqL K H n (ns.map V.int) := SqL.of (hS _ _ h2)
  refine ⟨_, rfl, a, _, dx, _, _, rfl, h1, T.cl_Reader, T.na_Reader_place, (lk_past (by decide +kernel)).trans lk_here, _, rfl, a, _, dx, _, _, rfl, h1, T.cl_Reader, T.na_Reader_numbers, lk_here, n, _, rfl, .inl hL, _, _, rfl, rfl, _, rfl, ?_⟩
  rw [List.length_map]
  refine if_dec (fun c => ?_) (fun c => ?_)
  · have e : x = [] := by
      rw [← h3]
      exact List.drop_eq_nil_of_le (by omega)
    exact kN (by rw [e]; rfl)
  · have hi' : i < ns.length := by omega
    have ex : x = ns[i] :: ns.drop (i + 1) := by
      rw [← h3]
      exact List.drop_eq_getElem_cons hi'
    refine ⟨_, rfl, a, _, dx, _, _, rfl, h1, T.cl_Reader, T.na_Reader_numbers, lk_here, _, rfl, a, _, dx, _, _, rfl, h1, T.cl_Reader, T.na_Reader_place, (lk_past (by decide +kernel)).trans lk_here, n, _, _, .int ns[i], rfl, rfl, hL, atI_nat (by rw [List.getElem?_map, List.getElem?_eq_getElem hi']; rfl), ?_⟩
    refine ⟨_, rfl, _, rfl, _, _, rfl, rfl, _, rfl, ?_⟩
    refine if_dec (fun c1 => ?_) (fun c1 => ?_)
    · exact kN (by rw [ex]; exact take_out (by omega))
    · refine ⟨_, rfl, _, rfl, _, _, rfl, rfl, _, rfl, ?_⟩
      refine if_dec (fun c2 => ?_) (fun c2 => ?_)
      · exact kN (by rw [ex]; exact take_out (by omega))
      · refine ⟨_, rfl, a, _, dx, _, _, rfl, h1, T.cl_Reader, T.na_Reader_place, (lk_past (by decide +kernel)).trans lk_here, _, _, rfl, rfl, _, rfl, a, _, dx, _, rfl, h1, T.cl_Reader, T.na_Reader_place, (by show 2 < 1000; decide), ?_⟩
        refine ⟨_, rfl, ?_⟩
        refine kS ns[i] (ns.drop (i + 1)) (by rw [ex]; exact take_in (by omega)) _ (Ext.set hS h5 rfl) ?_
        refine ⟨dx, n, ns, i + 1, ?_, h2, rfl, hi', h5⟩
        rw [upd_same]
        exact congrArg (fun q => some (HO.ins A.c_Reader dx q)) ((put_past (by decide +kernel)).trans (congrArg _ put_here))
theorem ok_Reader_finish (T : Txt K mg A) : Okf P w K mg base (L2.CX P w) 1 A.f_Reader_finish ["self"] (spFinish A) := by
  obtain ⟨fd, F, b⟩ := T.d_Reader_finish
  refine ⟨fd, F.okX sc_Reader_finish (fun vs H Q E h => ?_) (fun cdv AA outer s H vs Q E hr h => ?_), b, F.kp⟩
  · obtain ⟨G, a, x, rfl, _⟩ := h
    rfl
  obtain ⟨G, a, x, rfl, hS, ⟨dx, n, ns, i, h1, h2, h3, h4, h5⟩, kN, kS⟩ := h
  refine ⟨_, (pss_one (ps_if (pt_cmpR op_lt (pe_fld (pv 0) rfl) (pe_callB call_len_seq (by rfl) T.z_len PySem.boot_len (pa_cons (pe_fld (pv 0) rfl) pa_nil)) (nomark _)) (pss_one (ps_raise rfl (takes_of rfl rfl rfl rfl) (pmk_own0 PySem.F.excBase_Exception T.er_NotWhole.x T.er_NotWhole.g T.er_NotWhole.k (raises_own T.er_NotWhole.b T.er_NotWhole.t) (by exact rfl)))) pss_nil)), ?_⟩
  have hL : SqL K H n (ns.map V.int) := SqL.of (hS _ _ h2)
  refine ⟨_, rfl, a, _, dx, _, _, rfl, h1, T.cl_Reader, T.na_Reader_place, (lk_past (by decide +kernel)).trans lk_here, _, rfl, a, _, dx, _, _, rfl, h1, T.cl_Reader, T.na_Reader_numbers, lk_here, n, _, rfl, .inl hL, _, _, rfl, rfl, _, rfl, ?_⟩
  rw [List.length_map]
  refine if_dec (fun c => ?_) (fun c => ?_)
  · refine kN fun e => ?_
    rw [← h3] at e
    have := List.drop_eq_nil_iff.mp e
    omega
  · exact kS (by rw [← h3]; exact List.drop_eq_nil_of_le (by omega))
end
end Lf

set_option Elab.async false
set_option linter.all false
set_option maxRecDepth 100000
set_option maxHeartbeats 4000000
/-! # The defs of deeds -/
namespace Lf
open PySem PySem.Spec PyProof.Rows L2
open VamacBase (Deed Prog readDeed readTimes readNat readListed readValue readField whole)

/-! ### mathematics -/
theorem take_none_deed {x : List Int} (h : take 0 9 x = none) : readDeed x = none := by
  cases x with
  | nil => rfl
  | cons z r =>
    by_cases c : 0 ≤ z ∧ z ≤ 9
    · rw [take_in c] at h
      cases h
    · unfold readDeed
      split
      all_goals first | rfl | (rename_i h; exact absurd (List.cons.inj h).1 (by omega))
theorem nat_take (lo hi : Nat) (x : List Int) : readNat lo hi x = (take lo hi x).map fun u => (u.1.toNat, u.2) := by
  cases x with
  | nil => rfl
  | cons z r =>
    by_cases c : (lo : Int) ≤ z ∧ z ≤ (hi : Int)
    · rw [take_in c]
      exact if_pos c
    · rw [take_out c]
      exact if_neg c
theorem value_take (x : List Int) : readValue x = take (-999) 999 x := by
  cases x with
  | nil => rfl
  | cons z r =>
    by_cases c : (-999 : Int) ≤ z ∧ z ≤ 999
    · rw [take_in c]
      refine if_pos ?_
      show (decide ((0 - 999 : Int) ≤ z) && decide (z ≤ (999 : Int))) = true
      rw [decide_eq_true (by omega), decide_eq_true (by omega)]
      rfl
    · rw [take_out c]
      refine if_neg fun h => c ?_
      have h' : (decide ((0 - 999 : Int) ≤ z) && decide (z ≤ (999 : Int))) = true := h
      rw [Bool.and_eq_true] at h'
      have a := of_decide_eq_true h'.1
      have b := of_decide_eq_true h'.2
      omega
/-- what the first number tells of a deed -/
theorem deed_kinds (z : Int) (r : List Int) (h : 0 ≤ z ∧ z ≤ 9) :
    (inV (.int z) [.int 3, .int 4, .int 5, .int 6, .int 9] = false ∧ ∃ d, VamacBase.flatDeed d = [z] ∧ readDeed (z :: r) = some (d, r)) ∨
    (inV (.int z) [.int 3, .int 4, .int 5, .int 6, .int 9] = true ∧ inV (.int z) [.int 3, .int 4, .int 9] = false ∧ ∃ D : Nat → Deed, (∀ f, VamacBase.flatDeed (D f) = [z, (f : Int)]) ∧ readDeed (z :: r) = (readField r).map fun u => (D u.1, u.2)) ∨
    (inV (.int z) [.int 3, .int 4, .int 5, .int 6, .int 9] = true ∧ inV (.int z) [.int 3, .int 4, .int 9] = true ∧ ∃ D : Nat → Int → Deed, (∀ f v, VamacBase.flatDeed (D f v) = [z, (f : Int), v]) ∧ readDeed (z :: r) = (VamacBase.readPair readField readValue r).map fun u => (D u.1.1 u.1.2, u.2)) := by
  have e : z = 0 ∨ z = 1 ∨ z = 2 ∨ z = 3 ∨ z = 4 ∨ z = 5 ∨ z = 6 ∨ z = 7 ∨ z = 8 ∨ z = 9 := by omega
  rcases e with rfl | rfl | rfl | rfl | rfl | rfl | rfl | rfl | rfl | rfl
  · exact .inl ⟨by decide, .down, rfl, rfl⟩
  · exact .inl ⟨by decide, .up, rfl, rfl⟩
  · exact .inl ⟨by decide, .top, rfl, rfl⟩
  · exact .inr (.inr ⟨by decide, by decide, .write, fun _ _ => rfl, rfl⟩)
  · exact .inr (.inr ⟨by decide, by decide, .add, fun _ _ => rfl, rfl⟩)
  · exact .inr (.inl ⟨by decide, by decide, .copy, fun _ => rfl, rfl⟩)
  · exact .inr (.inl ⟨by decide, by decide, .paste, fun _ => rfl, rfl⟩)
  · exact .inl ⟨by decide, .delete, rfl, rfl⟩
  · exact .inl ⟨by decide, .double, rfl, rfl⟩
  · exact .inr (.inr ⟨by decide, by decide, .find, fun _ _ => rfl, rfl⟩)
theorem deed_len (d : Deed) : (deedV d).length = 3 ↔ VamacBase.hasNumber d = true := by
  cases d <;> simp [deedV, VamacBase.flatDeed, VamacBase.hasNumber]
theorem deed_short (d : Deed) : (deedV d).length ≤ 3 := by
  cases d <;> simp [deedV, VamacBase.flatDeed]
theorem deed_num {d : Deed} (h : VamacBase.hasNumber d = true) : ∃ k f : Int, deedV d = [.int k, .int f, .int (VamacBase.numberOf d)] ∧ ∀ v, deedV (VamacBase.withNumber v d) = [.int k, .int f, .int v] := by
  cases d with
  | write f v => exact ⟨3, f, rfl, fun _ => rfl⟩
  | add f v => exact ⟨4, f, rfl, fun _ => rfl⟩
  | find f v => exact ⟨9, f, rfl, fun _ => rfl⟩
  | _ => cases h
theorem deed_nonum {d : Deed} (h : VamacBase.hasNumber d = false) (v : Int) : VamacBase.withNumber v d = d ∧ VamacBase.numberOf d = 0 := by
  cases d with
  | write f v => cases h
  | add f v => cases h
  | find f v => cases h
  | _ => exact ⟨rfl, rfl⟩

def spHas : Sp := fun vs H Q _ => ∃ (G : Hp) (v : V) (d : Deed), vs = [v] ∧ Same G H ∧ DeedAt G v d ∧ Q (.bl (VamacBase.hasNumber d)) H
def spNum : Sp := fun vs H Q _ => ∃ (G : Hp) (v : V) (d : Deed), vs = [v] ∧ Same G H ∧ DeedAt G v d ∧ Q (.int (VamacBase.numberOf d)) H
def spAtRound : Sp := fun vs H Q _ => ∃ (G : Hp) (v : V) (d : Deed) (st i : Int), vs = [v, .int st, .int i] ∧ Same G H ∧ DeedAt G v d ∧ (-(2 ^ 64) < st ∧ st < 2 ^ 64) ∧
  ∀ (G' H' : Hp) (v' : V), Ext G H G' H' none_ → DeedAt G' v' (VamacBase.withNumber (VamacBase.numberOf d + st * i) d) → Q v' H'
def spReadDeed (A : Ad) : Sp := fun vs H Q E => ∃ (G : Hp) (a : Addr) (x : List Int), vs = [.ref a] ∧ Same G H ∧ Rdr A G H a x ∧
  (readDeed x = none → ∀ H', Ext G H G H' (· = a) → E (.ref A.c_NotWhole) none H') ∧
  ∀ d r, readDeed x = some (d, r) → ∀ (G' H' : Hp) (v : V), Ext G H G' H' (· = a) → Rdr A G' H' a r → DeedAt G' v d → Q v H'
def spWholeDeed (A : Ad) : Sp := fun vs H Q E => ∃ (G : Hp) (n : Addr) (ns : List Int), vs = [.ref n] ∧ Same G H ∧ G n = some (.lst (ns.map V.int)) ∧
  (whole readDeed ns = none → ∀ G' H', Ext G H G' H' none_ → E (.ref A.c_NotWhole) none H') ∧
  ∀ d, whole readDeed ns = some d → ∀ (G' H' : Hp) (v : V), Ext G H G' H' none_ → DeedAt G' v d → Q v H'
def spWholeDeeds (A : Ad) : Sp := fun vs H Q E => ∃ (G : Hp) (n : Addr) (ns : List Int), vs = [.ref n] ∧ Same G H ∧ G n = some (.lst (ns.map V.int)) ∧
  (whole (readListed 0 14 readDeed) ns = none → ∀ G' H', Ext G H G' H' none_ → E (.ref A.c_NotWhole) none H') ∧
  ∀ ds, whole (readListed 0 14 readDeed) ns = some ds → ∀ (G' H' : Hp) (p : Addr) (vs : List V), Ext G H G' H' none_ → H p = none → G' p = none → H' p = some (.lst vs) → All2 (DeedAt G') vs ds → Q (.ref p) H'
section
variable {P : Program} {w : World} {K : PySem.W.Frag} {mg : Str → Option Value} {base : Heap} {A : Ad}
theorem ok_has_number (T : Txt K mg A) : Okf P w K mg base CX0 1 A.f_has_number ["deed"] spHas := by
  obtain ⟨fd, F, b⟩ := T.d_has_number
  refine ⟨fd, F.ok sc_has_number (fun vs H Q E h => ?_) (fun cdv AA outer s H vs Q E hr h => ?_), b, F.kp⟩
  · obtain ⟨G, v, d, rfl, _⟩ := h
    rfl
  obtain ⟨G, v, d, rfl, hS, ⟨p, rfl, hp⟩, q⟩ := h
  refine ⟨_, (pss_one (ps_ret (pe_cmpR op_eq (pe_callB call_len_seq (by rfl) T.z_len PySem.boot_len (pa_cons (pv 0) pa_nil)) pe_int (nomark _)))), ?_⟩
  refine ⟨_, rfl, p, _, rfl, .inr (SqT.of (hS _ _ hp)), rfl, ?_⟩
  have e : decide (V.int ((deedV d).length : Int) = V.int 3) = VamacBase.hasNumber d := by
    cases c : VamacBase.hasNumber d with
    | true => exact decide_eq_true (by rw [(deed_len d).mpr c]; rfl)
    | false =>
      refine decide_eq_false fun z => ?_
      have z' : ((deedV d).length : Int) = 3 := V.int.inj z
      have := (deed_len d).mp (by omega)
      rw [c] at this
      cases this
  show Q (.bl (decide (V.int ((deedV d).length : Int) = V.int 3))) H
  rw [e]
  exact q
theorem ok_number_of (T : Txt K mg A) : Okf P w K mg base CX0 2 A.f_number_of ["deed"] spNum := by
  have G_has_number := ok_has_number (P := P) (w := w) (base := base) T
  obtain ⟨fd, F, b⟩ := T.d_number_of
  refine ⟨fd, F.ok sc_number_of (fun vs H Q E h => ?_) (fun cdv AA outer s H vs Q E hr h => ?_), b, F.kp⟩
  · obtain ⟨G, v, d, rfl, _⟩ := h
    rfl
  obtain ⟨G, v, d, rfl, hS, ⟨p, rfl, hp⟩, q⟩ := h
  refine ⟨_, (pss_one (ps_ret (pe_ifExp (pt_val (call_f G_has_number (hr.mono (by omega)) rfl T.g_has_number pass0 (pa_cons (pv 0) pa_nil))) (pe_ix ix_tup (pv 0) pe_int (fun _ _ => rfl)) pe_int))), ?_⟩
  refine ⟨_, rfl, G, _, d, rfl, hS, ⟨p, rfl, hp⟩, _, rfl, ?_⟩
  cases c : VamacBase.hasNumber d with
  | true =>
    obtain ⟨k, f, e, _⟩ := deed_num c
    refine iteT ?_
    refine ⟨_, rfl, p, _, _, .int (VamacBase.numberOf d), rfl, rfl, SqT.of (hS _ _ hp), ?_, q⟩
    rw [e]
    rfl
  | false =>
    refine iteF ?_
    rw [(deed_nonum c 0).2] at q
    exact q
theorem ok_deed_at_round (T : Txt K mg A) : Okf P w K mg base CX0 2 A.f_deed_at_round ["deed", "step", "round_number"] spAtRound := by
  have G_has_number := ok_has_number (P := P) (w := w) (base := base) T
  obtain ⟨fd, F, b⟩ := T.d_deed_at_round
  refine ⟨fd, F.ok sc_deed_at_round (fun vs H Q E h => ?_) (fun cdv AA outer s H vs Q E hr h => ?_), b, F.kp⟩
  · obtain ⟨G, v, d, st, i, rfl, _⟩ := h
    rfl
  obtain ⟨G, v, d, st, i, rfl, hS, ⟨p, rfl, hp⟩, hb, q⟩ := h
  refine ⟨_, (pss_cons (ps_if (pt_not (pt_val (call_f G_has_number (hr.mono (by omega)) rfl T.g_has_number pass0 (pa_cons (pv 0) pa_nil)))) (pss_one (ps_ret (pv 0))) pss_nil)
      (pss_one (ps_ret (pe_tup (pa_cons (pe_ix ix_tup (pv 0) pe_int (fun _ _ => rfl)) (pa_cons (pe_ix ix_tup (pv 0) pe_int (fun _ _ => rfl)) (pa_cons (pe_op op_add (pe_ix ix_tup (pv 0) pe_int (fun _ _ => rfl)) (pe_op op_mul (pv 1) (pv 2))) pa_nil))))))), ?_⟩
  refine ⟨_, rfl, G, _, d, rfl, hS, ⟨p, rfl, hp⟩, _, rfl, ?_⟩
  cases c : VamacBase.hasNumber d with
  | false =>
    refine iteT ?_
    refine ⟨_, rfl, ?_⟩
    refine q G H _ (Ext.refl hS) ?_
    rw [(deed_nonum c _).1]
    exact ⟨p, rfl, hp⟩
  | true =>
    obtain ⟨k, f, e, e'⟩ := deed_num c
    have hp' := hS _ _ hp
    rw [e] at hp'
    refine iteF ?_
    refine ⟨_, rfl, p, _, _, .int k, rfl, rfl, SqT.of hp', rfl, _, rfl, p, _, _, .int f, rfl, rfl, SqT.of hp', rfl, _, rfl, p, _, _, .int (VamacBase.numberOf d), rfl, rfl, SqT.of hp', rfl, _, rfl, _, rfl, _, _, rfl, rfl, .inl hb, _, _, rfl, rfl, (by show 3 ≤ sizeLine; decide), fun t ht => ?_⟩
    refine q (upd G t _) _ _ (Ext.new hS ht) ⟨t, rfl, ?_⟩
    rw [upd_same, e']
theorem ok_read_deed (T : Txt K mg A) : Okf P w K mg base (L2.CX P w) 2 A.f_read_deed ["reader"] (spReadDeed A) := by
  have G_Reader_take := ok_Reader_take (P := P) (w := w) (base := base) T
  obtain ⟨fd, F, b⟩ := T.d_read_deed
  refine ⟨fd, F.okX sc_read_deed (fun vs H Q E h => ?_) (fun cdv AA outer s H vs Q E hr h => ?_), b, F.kp⟩
  · obtain ⟨G, a, x, rfl, _⟩ := h
    rfl
  obtain ⟨G, a, x, rfl, hS, hR, kN, kS⟩ := h
  refine ⟨_, (pss_cons (ps_set (i := 1) sc_read_deed.nd rfl (Or.inl rfl) (call_m (pv 0) T.cl_Reader T.me_Reader_take G_Reader_take (hr.mono (by omega)) (passes_call (takes_of rfl rfl rfl rfl) (fun _ _ _ _ h => h)) (pa_cons (pe_glob (v := V.int 0) rfl T.i_DOWN.choose_spec ⟨_, rfl⟩) (pa_cons (pe_glob (v := V.int 9) rfl T.i_FIND.choose_spec ⟨_, rfl⟩) pa_nil))))
      (pss_cons (ps_if (pt_cmpR op_notIn_seq (pv 1) (pe_glob (v := V.ref A.t_KINDS_WITH_FIELD) rfl T.g_KINDS_WITH_FIELD rfl) (by rfl)) (pss_one (ps_ret (pe_tup (pa_cons (pv 1) pa_nil)))) pss_nil)
      (pss_cons (ps_set (i := 2) sc_read_deed.nd rfl (Or.inl rfl) (call_m (pv 0) T.cl_Reader T.me_Reader_take G_Reader_take (hr.mono (by omega)) (passes_call (takes_of rfl rfl rfl rfl) (fun _ _ _ _ h => h)) (pa_cons pe_int (pa_cons (pe_glob (v := V.int 2) rfl T.i_LAST_FIELD.choose_spec ⟨_, rfl⟩) pa_nil))))
      (pss_cons (ps_if (pt_cmpR op_notIn_seq (pv 1) (pe_glob (v := V.ref A.t_KINDS_WITH_NUMBER) rfl T.g_KINDS_WITH_NUMBER rfl) (by rfl)) (pss_one (ps_ret (pe_tup (pa_cons (pv 1) (pa_cons (pv 2) pa_nil))))) pss_nil)
      (pss_one (ps_ret (pe_tup (pa_cons (pv 1) (pa_cons (pv 2) (pa_cons (call_m (pv 0) T.cl_Reader T.me_Reader_take G_Reader_take (hr.mono (by omega)) (passes_call (takes_of rfl rfl rfl rfl) (fun _ _ _ _ h => h)) (pa_cons (pe_un un_neg (pe_glob (v := V.int 999) rfl T.i_MOST_NUMBER.choose_spec ⟨_, rfl⟩)) (pa_cons (pe_glob (v := V.int 999) rfl T.i_MOST_NUMBER.choose_spec ⟨_, rfl⟩) pa_nil))) pa_nil)))))))))), ?_⟩
  have ins : ∀ {G1 H1 : Hp} {y : List Int}, Rdr A G1 H1 a y → ∃ dx fs, H1 a = some (.ins A.c_Reader dx fs) ∧ fs.lookup ("take" : Str) = none := fun {G1 H1 y} ⟨dx, n, ns, i, h1, _⟩ => ⟨dx, _, h1, (lk_past (by decide +kernel)).trans ((lk_past (by decide +kernel)).trans rfl)⟩
  obtain ⟨dx0, fs0, i1, i2⟩ := ins hR
  refine ⟨_, rfl, a, dx0, fs0, rfl, i1, i2, G, a, 0, 9, x, rfl, hS, hR, fun e => kN (take_none_deed e) H (Ext.refl hS), fun z r e H1 e1 R1 => ?_⟩
  have hx : x = z :: r ∧ 0 ≤ z ∧ z ≤ 9 := by
    cases x with
    | nil => cases e
    | cons y l =>
      by_cases c : 0 ≤ y ∧ y ≤ 9
      · rw [take_in c] at e
        cases e
        exact ⟨rfl, c⟩
      · rw [take_out c] at e
        cases e
  obtain ⟨rfl, hz⟩ := hx
  refine ⟨_, rfl, _, _, rfl, .inr (T.v_KINDS_WITH_FIELD _), rfl, rfl, _, rfl, ?_⟩
  rcases deed_kinds z r hz with ⟨c, d, ed, er⟩ | ⟨c, c2, D, ed, er⟩ | ⟨c, c2, D, ed, er⟩
  · refine if_true_of (by rw [c]; rfl) ?_
    refine ⟨_, rfl, (by show 1 ≤ sizeLine; decide), fun t ht => ?_⟩
    refine kS d r er _ _ _ (e1.trans (Ext.new e1.sub ht)) ?_ ⟨t, rfl, ?_⟩
    · exact R1.mono (same_new (e1.sub.free ht)) (fun o q => same_new ht _ _ q) fun q => by
        obtain ⟨dx, fs, q1, _⟩ := ins R1
        rw [upd_ne (ne_of_none q1 ht)]
        exact q
    · rw [upd_same]
      unfold deedV
      rw [ed]
      rfl
  · refine if_false_of (by rw [c]; rfl) ?_
    obtain ⟨dx1, fs1, j1, j2⟩ := ins R1
    have er' : readDeed (z :: r) = (take 0 2 r).map fun u => (D u.1.toNat, u.2) := by
      rw [er]
      show (readNat 0 2 r).map _ = _
      rw [nat_take, Option.map_map]
      rfl
    refine ⟨_, rfl, a, dx1, fs1, rfl, j1, j2, G, a, 0, 2, r, rfl, e1.sub, R1, fun e => kN (by rw [er', e]; rfl) H1 e1, fun y r2 e H2 e2 R2 => ?_⟩
    refine ⟨_, rfl, _, _, rfl, .inr (T.v_KINDS_WITH_NUMBER _), rfl, rfl, _, rfl, ?_⟩
    refine if_true_of (by rw [c2]; rfl) ?_
    refine ⟨_, rfl, _, rfl, (by show 2 ≤ sizeLine; decide), fun t ht => ?_⟩
    have hy : 0 ≤ y := by
      cases r with
      | nil => cases e
      | cons y' l =>
        by_cases c : 0 ≤ y' ∧ y' ≤ 2
        · rw [take_in c] at e
          cases e
          exact c.1
        · rw [take_out c] at e
          cases e
    refine kS (D y.toNat) r2 (by rw [er', e]; rfl) _ _ _ ((e1.trans e2).trans (Ext.new e2.sub ht)) ?_ ⟨t, rfl, ?_⟩
    · exact R2.mono (same_new (e2.sub.free ht)) (fun o q => same_new ht _ _ q) fun q => by
        obtain ⟨dx, fs, q1, _⟩ := ins R2
        rw [upd_ne (ne_of_none q1 ht)]
        exact q
    · rw [upd_same]
      unfold deedV
      rw [ed, show ((y.toNat : Nat) : Int) = y by omega]
      rfl
  · refine if_false_of (by rw [c]; rfl) ?_
    obtain ⟨dx1, fs1, j1, j2⟩ := ins R1
    have er' : readDeed (z :: r) = (take 0 2 r).bind fun u => (take (-999) 999 u.2).map fun v => (D u.1.toNat v.1, v.2) := by
      rw [er]
      show ((readNat 0 2 r).bind fun u => (readValue u.2).map fun v => ((u.1, v.1), v.2)).map _ = _
      rw [nat_take]
      cases take 0 2 r with
      | none => rfl
      | some u =>
        show ((readValue u.2).map _).map _ = (take (-999) 999 u.2).map _
        rw [value_take, Option.map_map]
        rfl
    refine ⟨_, rfl, a, dx1, fs1, rfl, j1, j2, G, a, 0, 2, r, rfl, e1.sub, R1, fun e => kN (by rw [er', e]; rfl) H1 e1, fun y r2 e H2 e2 R2 => ?_⟩
    refine ⟨_, rfl, _, _, rfl, .inr (T.v_KINDS_WITH_NUMBER _), rfl, rfl, _, rfl, ?_⟩
    refine if_false_of (by rw [c2]; rfl) ?_
    obtain ⟨dx2, fs2, l1, l2⟩ := ins R2
    have hy : 0 ≤ y := by
      cases r with
      | nil => cases e
      | cons y' l =>
        by_cases c : 0 ≤ y' ∧ y' ≤ 2
        · rw [take_in c] at e
          cases e
          exact c.1
        · rw [take_out c] at e
          cases e
    refine ⟨_, rfl, _, rfl, _, rfl, a, dx2, fs2, rfl, l1, l2, _, rfl, G, a, -999, 999, r2, rfl, e2.sub, R2, fun e3 => kN (by rw [er', e]; show (take (-999) 999 r2).map _ = none; rw [e3]; rfl) H2 (e1.trans e2), fun v r3 e3 H3 x3 R3 => ?_⟩
    refine ⟨(by show 3 ≤ sizeLine; decide), fun t ht => ?_⟩
    refine kS (D y.toNat v) r3 (by rw [er', e]; show (take (-999) 999 r2).map _ = _; rw [e3]; rfl) _ _ _ (((e1.trans e2).trans x3).trans (Ext.new x3.sub ht)) ?_ ⟨t, rfl, ?_⟩
    · exact R3.mono (same_new (x3.sub.free ht)) (fun o q => same_new ht _ _ q) fun q => by
        obtain ⟨dx, fs, q1, _⟩ := ins R3
        rw [upd_ne (ne_of_none q1 ht)]
        exact q
    · rw [upd_same]
      unfold deedV
      rw [ed, show ((y.toNat : Nat) : Int) = y by omega]
      rfl
end
end Lf

set_option Elab.async false
set_option linter.all false
set_option maxRecDepth 100000
set_option maxHeartbeats 4000000
/-! # Whole deeds -/
namespace Lf
open PySem PySem.Spec PyProof.Rows L2
open VamacBase (Deed Prog readDeed readTimes readNat readListed readValue readField whole)

theorem whole_some {B : Type} {a : VamacBase.Reader B} {x : List Int} {u : B} (h : a x = some (u, [])) : whole a x = some u := by
  unfold whole
  rw [h]
theorem whole_none {B : Type} {a : VamacBase.Reader B} {x : List Int} (h : a x = none) : whole a x = none := by
  unfold whole
  rw [h]
theorem whole_rest {B : Type} {a : VamacBase.Reader B} {x r : List Int} {u : B} (h : a x = some (u, r)) (n : r ≠ []) : whole a x = none := by
  unfold whole
  rw [h]
  cases r with
  | nil => exact absurd rfl n
  | cons _ _ => rfl
/-- a reader's methods are none of its attributes -/
theorem Rdr.ins {A : Ad} {G H : Hp} {a : Addr} {x : List Int} {m : Str} (h : Rdr A G H a x) (h1 : (m == ("numbers" : Str)) = false) (h2 : (m == ("place" : Str)) = false) : ∃ dx fs, H a = some (.ins A.c_Reader dx fs) ∧ fs.lookup m = none := by
  obtain ⟨dx, n, ns, i, h0, _⟩ := h
  exact ⟨dx, _, h0, (lk_past h1).trans ((lk_past h2).trans rfl)⟩
theorem Rdr.there {A : Ad} {G H : Hp} {a : Addr} {x : List Int} (h : Rdr A G H a x) : ∃ o, H a = some o := by
  obtain ⟨dx, n, ns, i, h0, _⟩ := h
  exact ⟨_, h0⟩
/-- a new reader -/
theorem Rdr.new {A : Ad} {G H : Hp} {x dx n : Addr} {ns : List Int} (s : Same G H) (hx : H x = none) (hn : G n = some (.lst (ns.map V.int))) : Rdr A G (mkH H x dx A.c_Reader [("numbers", .ref n), ("place", .int 0)]) x ns :=
  ⟨dx, n, ns, 0, mkH_x, hn, rfl, Nat.zero_le _, s.free hx⟩
/-- the reader over a new object -/
theorem Rdr.upd_new {A : Ad} {G H : Hp} {a p : Addr} {x : List Int} {o : HO} (h : Rdr A G H a x) (n : H p = none) : Rdr A G (upd H p o) a x :=
  h.mono (Same.refl _) (fun o q => same_new n _ _ q) fun q => q
/-- .. over a change elsewhere -/
theorem Rdr.upd_other {A : Ad} {G H : Hp} {a p : Addr} {x : List Int} {o : HO} (h : Rdr A G H a x) (n : a ≠ p) : Rdr A G (upd H p o) a x :=
  h.mono (Same.refl _) (fun o q => by rw [upd_ne n]; exact q) fun q => q

section
variable {P : Program} {w : World} {K : PySem.W.Frag} {mg : Str → Option Value} {base : Heap} {A : Ad}
theorem ok_whole_deed (T : Txt K mg A) : Okf P w K mg base (L2.CX P w) 3 A.f_whole_deed ["numbers"] (spWholeDeed A) := by
  have G_Reader_init := ok_Reader_init (P := P) (w := w) (base := base) T
  have G_Reader_finish := ok_Reader_finish (P := P) (w := w) (base := base) T
  have G_read_deed := ok_read_deed (P := P) (w := w) (base := base) T
  obtain ⟨fd, F, b⟩ := T.d_whole_deed
  refine ⟨fd, F.okX sc_whole_deed (fun vs H Q E h => ?_) (fun cdv AA outer s H vs Q E hr h => ?_), b, F.kp⟩
  · obtain ⟨G, n, ns, rfl, _⟩ := h
    rfl
  obtain ⟨G, n, ns, rfl, hS, hn, kN, kS⟩ := h
  refine ⟨_, (pss_cons (ps_set (i := 1) sc_whole_deed.nd rfl (Or.inl rfl) (call_c T.mk_Reader G_Reader_init (hr.mono (by omega)) rfl T.g_Reader pass0 (pa_cons (pv 0) pa_nil)))
      (pss_cons (ps_set (i := 2) sc_whole_deed.nd rfl (Or.inl rfl) (call_f G_read_deed (hr.mono (by omega)) rfl T.g_read_deed (passes_call (takes_of rfl rfl rfl rfl) (fun _ _ _ _ h => h)) (pa_cons (pv 1) pa_nil)))
      (pss_cons (ps_expr (call_m0 (pv 1) T.cl_Reader T.me_Reader_finish G_Reader_finish (hr.mono (by omega)) (passes_call (takes_of rfl rfl rfl rfl) (fun _ _ _ _ h => h))))
      (pss_one (ps_ret (pv 2)))))), ?_⟩
  refine ⟨_, rfl, fun x dx nx nd ne => ⟨x, dx, _, rfl, upd_same, rfl, ?_⟩⟩
  rw [upd_upd]
  have E1 : Ext G H G (mkH H x dx A.c_Reader [("numbers", .ref n), ("place", .int 0)]) none_ := Ext.madeO hS nx nd
  have R1 := Rdr.new (A := A) (dx := dx) hS nx hn
  refine ⟨_, rfl, G, x, ns, rfl, E1.sub, R1, fun e H' e' => kN (whole_none e) G H' (E1.then_ e' fun c q => .inr (q ▸ nx)), fun d r e G2 H2 v e2 R2 D => ?_⟩
  have E2 : Ext G H G2 H2 none_ := E1.then_ e2 fun c q => .inr (q ▸ nx)
  obtain ⟨dx2, fs2, l1, l2⟩ := R2.ins (m := "finish") (by decide +kernel) (by decide +kernel)
  refine ⟨_, rfl, x, dx2, fs2, rfl, l1, l2, G2, x, r, rfl, e2.sub, R2, fun n => kN (whole_rest e n) G2 H2 E2, fun z => ?_⟩
  subst z
  exact ⟨_, rfl, kS d (whole_some e) G2 H2 v E2 D⟩

/-- some deeds more -/
theorem times_step {n i : Nat} {x r : List Int} {ds : List Deed} (h : readTimes readDeed n x = (readTimes readDeed (n - i) r).map fun v => (ds ++ v.1, v.2)) (hi : i < n) :
    (readDeed r = none → readTimes readDeed n x = none) ∧ ∀ d r', readDeed r = some (d, r') → readTimes readDeed n x = (readTimes readDeed (n - (i + 1)) r').map fun v => ((ds ++ [d]) ++ v.1, v.2) := by
  have e : n - i = (n - (i + 1)) + 1 := by omega
  rw [e] at h
  refine ⟨fun q => ?_, fun d r' q => ?_⟩
  · rw [h, readTimes, q]
    rfl
  · rw [h, readTimes, q, Option.bind_some, Option.map_map]
    refine congrArg (fun f => Option.map f (readTimes readDeed (n - (i + 1)) r')) ?_
    funext v
    show (ds ++ d :: v.1, v.2) = ((ds ++ [d]) ++ v.1, v.2)
    rw [List.append_assoc]
    rfl
theorem ok_whole_deeds (T : Txt K mg A) : Okf P w K mg base (L2.CX P w) 3 A.f_whole_deeds ["numbers"] (spWholeDeeds A) := by
  have G_Reader_init := ok_Reader_init (P := P) (w := w) (base := base) T
  have G_Reader_take := ok_Reader_take (P := P) (w := w) (base := base) T
  have G_Reader_finish := ok_Reader_finish (P := P) (w := w) (base := base) T
  have G_read_deed := ok_read_deed (P := P) (w := w) (base := base) T
  obtain ⟨fd, F, b⟩ := T.d_whole_deeds
  refine ⟨fd, F.okX sc_whole_deeds (fun vs H Q E h => ?_) (fun cdv AA outer s H vs Q E hr h => ?_), b, F.kp⟩
  · obtain ⟨G, n, ns, rfl, _⟩ := h
    rfl
  obtain ⟨G, n, ns, rfl, hS, hn, kN, kS⟩ := h
  refine ⟨_, (pss_cons (ps_set (i := 1) sc_whole_deeds.nd rfl (Or.inl rfl) (call_c T.mk_Reader G_Reader_init (hr.mono (by omega)) rfl T.g_Reader pass0 (pa_cons (pv 0) pa_nil)))
      (pss_cons (ps_set (i := 2) sc_whole_deeds.nd rfl (Or.inl rfl) (pe_lst pa_nil))
      (pss_cons (ps_for (passes_of rfl) rfl (pi_range1 rfl T.z_range (pa_cons (call_m (pv 1) T.cl_Reader T.me_Reader_take G_Reader_take (hr.mono (by omega)) (passes_call (takes_of rfl rfl rfl rfl) (fun _ _ _ _ h => h)) (pa_cons pe_int (pa_cons (pe_glob (v := V.int 14) rfl T.i_MOST_DEEDS.choose_spec ⟨_, rfl⟩) pa_nil))) pa_nil)) (pg_name (i := 3) sc_whole_deeds.nd rfl (Or.inl rfl)) (pss_one (ps_expr (pe_bm PySem.F.plainAttrs_list PySem.F.slot_list_append PySem.F.type_list_append mt_append (pv 2) (pa_cons (call_f G_read_deed (hr.mono (by omega)) rfl T.g_read_deed (passes_call (takes_of rfl rfl rfl rfl) (fun _ _ _ _ h => h)) (pa_cons (pv 1) pa_nil)) pa_nil)))))
      (pss_cons (ps_expr (call_m0 (pv 1) T.cl_Reader T.me_Reader_finish G_Reader_finish (hr.mono (by omega)) (passes_call (takes_of rfl rfl rfl rfl) (fun _ _ _ _ h => h))))
      (pss_one (ps_ret (pv 2))))))), ?_⟩
  refine ⟨_, rfl, fun x dx nx nd ne => ⟨x, dx, _, rfl, upd_same, rfl, ?_⟩⟩
  rw [upd_upd]
  have E1 : Ext G H G (mkH H x dx A.c_Reader [("numbers", .ref n), ("place", .int 0)]) none_ := Ext.madeO hS nx nd
  have R1 := Rdr.new (A := A) (dx := dx) hS nx hn
  -- deeds = []
  refine ⟨(by show 0 ≤ sizeLine; decide), fun l hl => ?_⟩
  have E2 := E1.trans (Ext.open_ (M := none_) (o := .lst []) E1.sub hl)
  have R2 := R1.upd_new (o := .lst []) hl
  have xl : x ≠ l := ne_of_none mkH_x hl
  have nl : H l = none := E1.free hl
  have gl : G l = none := hS.free nl
  -- reader.take(0, 14)
  obtain ⟨dx2, fs2, l1, l2⟩ := R2.ins (m := "take") (by decide +kernel) (by decide +kernel)
  refine ⟨_, rfl, x, dx2, fs2, rfl, l1, l2, G, x, 0, 14, ns, rfl, E2.sub, R2, fun e => kN (whole_none ?_) G _ E2, fun z r e H3 e3 R3 => ?_⟩
  · show (readNat 0 14 ns).bind _ = none
    rw [nat_take]
    show ((take 0 14 ns).map _).bind _ = none
    rw [e]
    rfl
  have E3 : Ext G H G H3 none_ := E2.then_ e3 fun c q => .inr (q ▸ nx)
  have hz : 0 ≤ z ∧ z ≤ 14 := by
    cases ns with
    | nil => cases e
    | cons y t =>
      by_cases c : 0 ≤ y ∧ y ≤ 14
      · rw [take_in c] at e
        cases e
        exact c
      · rw [take_out c] at e
        cases e
  have hrd : readListed 0 14 readDeed ns = readTimes readDeed z.toNat r := by
    show (readNat 0 14 ns).bind _ = _
    rw [nat_take]
    show ((take 0 14 ns).map _).bind _ = _
    rw [e]
    rfl
  have h3l : H3 l = some (.lst []) := e3.keep _ _ upd_same fun q => xl q.symm
  refine ⟨z, rfl, by omega, by omega, for_range (lo := 0) (n := z.toNat) (fun i σ H' => ∃ (v : Option V) (G' : Hp) (ds : List Deed) (vs : List V) (r' : List Int), σ = [some (.ref n), some (.ref x), some (.ref l), v] ∧ Ext G H G' H' none_ ∧ Rdr A G' H' x r' ∧ G' l = none ∧ H' l = some (.lst vs) ∧ All2 (DeedAt G') vs ds ∧ ds.length = i ∧
    readTimes readDeed z.toNat r = (readTimes readDeed (z.toNat - i) r').map fun v => (ds ++ v.1, v.2)) ?_ ?_ ?_⟩
  · refine ⟨none, G, [], [], r, rfl, E3, R3, gl, h3l, .nil, rfl, ?_⟩
    show _ = (readTimes readDeed z.toNat r).map fun v => v
    simp
  · rintro i σ H' hi ⟨v, G', ds, vs, r', rfl, X1, R4, g4, h4, a4, len, eq⟩
    obtain ⟨f1, f2⟩ := times_step eq hi
    refine ⟨_, rfl, .inl ⟨rfl, _, SqL.of h4⟩, _, rfl, G', x, r', rfl, X1.sub, R4, fun e5 H5 x5 => kN (whole_none (hrd.trans (f1 e5))) G' H5 (X1.then_ x5 fun c q => .inr (q ▸ nx)), fun d r5 e5 G5 H5 v5 x5 R5 D5 => ?_⟩
    have h5 : H5 l = some (.lst vs) := x5.keep _ _ h4 fun q => xl q.symm
    have g5 : G5 l = none := x5.fresh _ _ h4 g4
    have X5 : Ext G H G5 H5 none_ := X1.then_ x5 fun c q => .inr (q ▸ nx)
    have hlen := a4.length
    refine ⟨l, _, _, rfl, rfl, h5, small1000 (by omega), ?_⟩
    refine ⟨_, G5, ds ++ [d], vs ++ [v5], r5, rfl, X5.put nl g5, R5.upd_other xl, g5, upd_same, (a4.deeds x5.mono).append (.one D5), by rw [List.length_append, len]; rfl, f2 d r5 e5⟩
  · rintro σ H' ⟨v, G', ds, vs, r', rfl, X1, R4, g4, h4, a4, len, eq⟩
    rw [Nat.sub_self] at eq
    have eq' : readListed 0 14 readDeed ns = some (ds, r') := by
      rw [hrd, eq]
      show some (ds ++ [], r') = _
      rw [List.append_nil]
    obtain ⟨dx5, fs5, l5, l6⟩ := R4.ins (m := "finish") (by decide +kernel) (by decide +kernel)
    refine ⟨_, rfl, x, dx5, fs5, rfl, l5, l6, G', x, r', rfl, X1.sub, R4, fun n => kN (whole_rest eq' n) G' H' X1, fun z => ?_⟩
    subst z
    exact ⟨_, rfl, kS ds (whole_some eq') G' H' l vs X1 nl g4 h4 a4⟩
end
end Lf

set_option Elab.async false
set_option linter.all false
set_option maxRecDepth 100000
set_option maxHeartbeats 4000000
/-! # Programs, read -/
namespace Lf
open PySem PySem.Spec PyProof.Rows L2
open VamacBase (Deed Prog readDeed readTimes readNat readListed readValue readField whole)

theorem take_some {lo hi z : Int} {x r : List Int} (e : take lo hi x = some (z, r)) : x = z :: r ∧ lo ≤ z ∧ z ≤ hi := by
  cases x with
  | nil => cases e
  | cons y t =>
    by_cases c : lo ≤ y ∧ y ≤ hi
    · rw [take_in c] at e
      cases e
      exact ⟨rfl, c⟩
    · rw [take_out c] at e
      cases e
theorem times_step' {B : Type} {rd : VamacBase.Reader B} {n i : Nat} {x r : List Int} {ds : List B} (h : readTimes rd n x = (readTimes rd (n - i) r).map fun v => (ds ++ v.1, v.2)) (hi : i < n) :
    (rd r = none → readTimes rd n x = none) ∧ ∀ d r', rd r = some (d, r') → readTimes rd n x = (readTimes rd (n - (i + 1)) r').map fun v => ((ds ++ [d]) ++ v.1, v.2) := by
  have e : n - i = (n - (i + 1)) + 1 := by omega
  rw [e] at h
  refine ⟨fun q => ?_, fun d r' q => ?_⟩
  · rw [h, readTimes, q]
    rfl
  · rw [h, readTimes, q, Option.bind_some, Option.map_map]
    refine congrArg (fun f => Option.map f (readTimes rd (n - (i + 1)) r')) ?_
    funext v
    show (ds ++ d :: v.1, v.2) = ((ds ++ [d]) ++ v.1, v.2)
    rw [List.append_assoc]
    rfl
theorem piece_none {row : VamacBase.Reader Prog} {x : List Int} (h : take 0 3 x = none) : pieceM row x = none := by
  cases x with
  | nil => rfl
  | cons z r =>
    by_cases c : 0 ≤ z ∧ z ≤ 3
    · rw [take_in c] at h
      cases h
    · unfold pieceM
      split
      all_goals first | rfl | (rename_i h; exact absurd (List.cons.inj h).1 (by omega))

def spRow (A : Ad) (d : Nat) : Sp := fun vs H Q E => ∃ (G : Hp) (a : Addr) (deep : Int) (x : List Int), vs = [.ref a, .int deep] ∧ deep + d = 4 ∧ Same G H ∧ Rdr A G H a x ∧
  (rowM d x = none → ∀ G' H', Ext G H G' H' (· = a) → E (.ref A.c_NotWhole) none H') ∧
  ∀ p r, rowM d x = some (p, r) → ∀ (G' H' : Hp) (q : Addr), Ext G H G' H' (· = a) → Rdr A G' H' a r → RowAt A G' q p → Q (.ref q) H'
def spPiece (A : Ad) (d : Nat) : Sp := fun vs H Q E => ∃ (G : Hp) (a : Addr) (deep : Int) (x : List Int), vs = [.ref a, .int deep] ∧ deep + d = 3 ∧ Same G H ∧ Rdr A G H a x ∧
  (pieceM (rowM d) x = none → ∀ G' H', Ext G H G' H' (· = a) → E (.ref A.c_NotWhole) none H') ∧
  ∀ u r, pieceM (rowM d) x = some (u, r) → ∀ (G' H' : Hp) (v : V), Ext G H G' H' (· = a) → Rdr A G' H' a r → PieceAt A G' v u → Q v H'
section
variable {P : Program} {w : World} {K : PySem.W.Frag} {mg : Str → Option Value} {base : Heap} {A : Ad}
theorem ok_DeedPiece_init (T : Txt K mg A) : Okf P w K mg base CX0 1 A.f_DeedPiece_init ["self", "deed", "step"] (spInit A.c_DeedPiece ["deed", "step"]) := by
  obtain ⟨fd, F, b⟩ := T.d_DeedPiece_init
  refine ⟨fd, F.ok sc_DeedPiece_init (fun vs H Q E h => ?_) (fun cdv AA outer s H vs Q E hr h => ?_), b, F.kp⟩
  · obtain ⟨p, dx, ws, rfl, hl, _⟩ := h
    exact congrArg (· + 1) hl
  obtain ⟨p, dx, ws, rfl, hl, hp, q⟩ := h
  match ws, hl with
  | [v1, v2], _ =>
  refine ⟨_, (pss_cons (ps_fld (pv 0) (pv 1) rfl)
      (pss_one (ps_fld (pv 0) (pv 2) rfl))), ?_⟩
  refine ⟨_, rfl, _, rfl, p, _, dx, _, rfl, hp, T.cl_DeedPiece, T.na_DeedPiece_deed, (by show 0 < 1000; decide), ?_⟩
  refine ⟨_, rfl, _, rfl, p, _, dx, _, rfl, upd_same, T.cl_DeedPiece, T.na_DeedPiece_step, (by show 1 < 1000; decide), ?_⟩
  rw [upd_upd]
  exact q
theorem ok_LoopPiece_init (T : Txt K mg A) : Okf P w K mg base CX0 1 A.f_LoopPiece_init ["self", "rounds", "row"] (spInit A.c_LoopPiece ["rounds", "row"]) := by
  obtain ⟨fd, F, b⟩ := T.d_LoopPiece_init
  refine ⟨fd, F.ok sc_LoopPiece_init (fun vs H Q E h => ?_) (fun cdv AA outer s H vs Q E hr h => ?_), b, F.kp⟩
  · obtain ⟨p, dx, ws, rfl, hl, _⟩ := h
    exact congrArg (· + 1) hl
  obtain ⟨p, dx, ws, rfl, hl, hp, q⟩ := h
  match ws, hl with
  | [v1, v2], _ =>
  refine ⟨_, (pss_cons (ps_fld (pv 0) (pv 1) rfl)
      (pss_one (ps_fld (pv 0) (pv 2) rfl))), ?_⟩
  refine ⟨_, rfl, _, rfl, p, _, dx, _, rfl, hp, T.cl_LoopPiece, T.na_LoopPiece_rounds, (by show 0 < 1000; decide), ?_⟩
  refine ⟨_, rfl, _, rfl, p, _, dx, _, rfl, upd_same, T.cl_LoopPiece, T.na_LoopPiece_row, (by show 1 < 1000; decide), ?_⟩
  rw [upd_upd]
  exact q
theorem ok_TableBoundPiece_init (T : Txt K mg A) : Okf P w K mg base CX0 1 A.f_TableBoundPiece_init ["self", "row"] (spInit A.c_TableBoundPiece ["row"]) := by
  obtain ⟨fd, F, b⟩ := T.d_TableBoundPiece_init
  refine ⟨fd, F.ok sc_TableBoundPiece_init (fun vs H Q E h => ?_) (fun cdv AA outer s H vs Q E hr h => ?_), b, F.kp⟩
  · obtain ⟨p, dx, ws, rfl, hl, _⟩ := h
    exact congrArg (· + 1) hl
  obtain ⟨p, dx, ws, rfl, hl, hp, q⟩ := h
  match ws, hl with
  | [v1], _ =>
  refine ⟨_, (pss_one (ps_fld (pv 0) (pv 1) rfl)), ?_⟩
  refine ⟨_, rfl, _, rfl, p, _, dx, _, rfl, hp, T.cl_TableBoundPiece, T.na_TableBoundPiece_row, (by show 0 < 1000; decide), ?_⟩
  exact q
/-- a reader over an object made -/
theorem Rdr.made {G H : Hp} {a x dx C : Addr} {fs : List (Str × V)} {y : List Int} (h : Rdr A G H a y) (s : Same G H) (hx : H x = none) (hd : H dx = none) : Rdr A (upd G x (.ins C dx fs)) (mkH H x dx C fs) a y := by
  obtain ⟨o, q⟩ := h.there
  exact h.mono (same_new (s.free hx)) (fun o q => mkH_old hx hd q) fun g => by
    rw [upd_ne (ne_of_none q hx)]
    exact g
theorem piece_step {d k : Nat} (T : Txt K mg A) (hk : 2 ≤ k) (G_read_row : Okf P w K mg base (L2.CX P w) k A.f_read_row ["reader", "deep"] (spRow A d)) : Okf P w K mg base (L2.CX P w) (k + 1) A.f_read_piece ["reader", "deep"] (spPiece A d) := by
  have G_Reader_take := ok_Reader_take (P := P) (w := w) (base := base) T
  have G_has_number := ok_has_number (P := P) (w := w) (base := base) T
  have G_read_deed := ok_read_deed (P := P) (w := w) (base := base) T
  have G_DeedPiece_init := ok_DeedPiece_init (P := P) (w := w) (base := base) T
  have G_LoopPiece_init := ok_LoopPiece_init (P := P) (w := w) (base := base) T
  have G_TableBoundPiece_init := ok_TableBoundPiece_init (P := P) (w := w) (base := base) T
  obtain ⟨fd, F, b⟩ := T.d_read_piece
  refine ⟨fd, F.okX sc_read_piece (fun vs H Q E h => ?_) (fun cdv AA outer s H vs Q E hr h => ?_), b, F.kp⟩
  · obtain ⟨G, a, deep, x, rfl, _⟩ := h
    rfl
  obtain ⟨G, a, deep, x, rfl, hd, hS, hR, kN, kS⟩ := h
  refine ⟨_, (pss_cons (ps_set (i := 2) sc_read_piece.nd rfl (Or.inl rfl) (call_m (pv 0) T.cl_Reader T.me_Reader_take G_Reader_take (hr.mono (by omega)) (passes_call (takes_of rfl rfl rfl rfl) (fun _ _ _ _ h => h)) (pa_cons (pe_glob (v := V.int 0) rfl T.i_DEED.choose_spec ⟨_, rfl⟩) (pa_cons (pe_glob (v := V.int 3) rfl T.i_PART.choose_spec ⟨_, rfl⟩) pa_nil))))
      (pss_cons (ps_if (pt_cmpR op_eq (pv 2) (pe_glob (v := V.int 0) rfl T.i_DEED.choose_spec ⟨_, rfl⟩) (nomark _)) (pss_cons (ps_set (i := 3) sc_read_piece.nd rfl (Or.inl rfl) (call_f G_read_deed (hr.mono (by omega)) rfl T.g_read_deed (passes_call (takes_of rfl rfl rfl rfl) (fun _ _ _ _ h => h)) (pa_cons (pv 0) pa_nil)))
      (pss_cons (ps_set (i := 4) sc_read_piece.nd rfl (Or.inl rfl) (pe_ifExp (pt_val (call_f G_has_number (hr.mono (by omega)) rfl T.g_has_number pass0 (pa_cons (pv 3) pa_nil))) (call_m (pv 0) T.cl_Reader T.me_Reader_take G_Reader_take (hr.mono (by omega)) (passes_call (takes_of rfl rfl rfl rfl) (fun _ _ _ _ h => h)) (pa_cons (pe_un un_neg (pe_glob (v := V.int 999) rfl T.i_MOST_NUMBER.choose_spec ⟨_, rfl⟩)) (pa_cons (pe_glob (v := V.int 999) rfl T.i_MOST_NUMBER.choose_spec ⟨_, rfl⟩) pa_nil))) pe_int))
      (pss_one (ps_ret (call_c T.mk_DeedPiece G_DeedPiece_init (hr.mono (by omega)) rfl T.g_DeedPiece pass0 (pa_cons (pv 3) (pa_cons (pv 4) pa_nil))))))) pss_nil)
      (pss_cons (ps_if (pt_cmpR op_eq (pv 2) (pe_glob (v := V.int 1) rfl T.i_LOOP.choose_spec ⟨_, rfl⟩) (nomark _)) (pss_cons (ps_set (i := 5) sc_read_piece.nd rfl (Or.inl rfl) (call_m (pv 0) T.cl_Reader T.me_Reader_take G_Reader_take (hr.mono (by omega)) (passes_call (takes_of rfl rfl rfl rfl) (fun _ _ _ _ h => h)) (pa_cons pe_int (pa_cons (pe_glob (v := V.int 9) rfl T.i_MOST_ROUNDS.choose_spec ⟨_, rfl⟩) pa_nil))))
      (pss_one (ps_ret (call_c T.mk_LoopPiece G_LoopPiece_init (hr.mono (by omega)) rfl T.g_LoopPiece pass0 (pa_cons (pv 5) (pa_cons (call_f G_read_row (hr.mono (by omega)) rfl T.g_read_row (passes_call (takes_of rfl rfl rfl rfl) (fun _ _ _ _ h => h)) (pa_cons (pv 0) (pa_cons (pe_op op_add (pv 1) pe_int) pa_nil))) pa_nil)))))) pss_nil)
      (pss_cons (ps_if (pt_cmpR op_eq (pv 2) (pe_glob (v := V.int 3) rfl T.i_PART.choose_spec ⟨_, rfl⟩) (nomark _)) (pss_cons (ps_expr (call_m (pv 0) T.cl_Reader T.me_Reader_take G_Reader_take (hr.mono (by omega)) (passes_call (takes_of rfl rfl rfl rfl) (fun _ _ _ _ h => h)) (pa_cons pe_int (pa_cons (pe_glob (v := V.int 2) rfl T.i_LAST_FIELD.choose_spec ⟨_, rfl⟩) pa_nil))))
      (pss_one (ps_expr (call_m (pv 0) T.cl_Reader T.me_Reader_take G_Reader_take (hr.mono (by omega)) (passes_call (takes_of rfl rfl rfl rfl) (fun _ _ _ _ h => h)) (pa_cons (pe_un un_neg (pe_glob (v := V.int 999) rfl T.i_MOST_NUMBER.choose_spec ⟨_, rfl⟩)) (pa_cons (pe_glob (v := V.int 999) rfl T.i_MOST_NUMBER.choose_spec ⟨_, rfl⟩) pa_nil)))))) pss_nil)
      (pss_one (ps_ret (call_c T.mk_TableBoundPiece G_TableBoundPiece_init (hr.mono (by omega)) rfl T.g_TableBoundPiece pass0 (pa_cons (call_f G_read_row (hr.mono (by omega)) rfl T.g_read_row (passes_call (takes_of rfl rfl rfl rfl) (fun _ _ _ _ h => h)) (pa_cons (pv 0) (pa_cons (pe_op op_add (pv 1) pe_int) pa_nil))) pa_nil)))))))), ?_⟩
  obtain ⟨dx0, fs0, i1, i2⟩ := hR.ins (m := "take") (by decide +kernel) (by decide +kernel)
  refine ⟨_, rfl, a, dx0, fs0, rfl, i1, i2, G, a, 0, 3, x, rfl, hS, hR, fun e => kN (piece_none e) G H (Ext.refl hS), fun z r e H1 e1 R1 => ?_⟩
  obtain ⟨rfl, hz⟩ := take_some e
  refine ⟨_, rfl, rfl, _, rfl, ?_⟩
  refine if_dec (fun c => ?_) (fun c0 => ?_)
  · -- a deed
    have c' : z = 0 := V.int.inj c
    subst c'
    refine ⟨_, rfl, G, a, r, rfl, e1.sub, R1, fun e2 H2 x2 => kN (by show (readDeed r).bind _ = none; rw [e2]; rfl) G H2 (e1.trans x2), fun dd r2 e2 G2 H2 v2 x2 R2 D2 => ?_⟩
    have X2 := e1.trans x2
    refine ⟨_, rfl, G2, _, dd, rfl, x2.sub, D2, _, rfl, ?_⟩
    have fin : ∀ (st : Int) (r3 : List Int) (H3 : Hp), Ext G2 H2 G2 H3 (· = a) → Rdr A G2 H3 a r3 → pieceM (rowM d) (0 :: r) = some (.deed dd st, r3) → ∀ (x dx : Addr), H3 x = none → H3 dx = none → dx ≠ x → Q (.ref x) (mkH H3 x dx A.c_DeedPiece [("deed", v2), ("step", .int st)]) := fun st r3 H3 x3 R3 ee x dx nx nd _ =>
      kS _ _ ee (upd G2 x _) _ _ ((X2.trans x3).trans (Ext.made x3.sub nx nd)) (R3.made x3.sub nx nd) ⟨x, dx, v2, rfl, upd_same, D2.mono (same_new (x3.sub.free nx))⟩
    cases c : VamacBase.hasNumber dd with
    | true =>
      refine iteT ?_
      obtain ⟨dx2, fs2, l1, l2⟩ := R2.ins (m := "take") (by decide +kernel) (by decide +kernel)
      have pe : pieceM (rowM d) (0 :: r) = (take (-999) 999 r2).map fun s => (Piece.deed dd s.1, s.2) := by
        show (readDeed r).bind _ = _
        rw [e2]
        show ((if VamacBase.hasNumber dd = true then readValue r2 else some (0, r2)).map fun s => (Piece.deed dd s.1, s.2)) = _
        rw [c, if_pos rfl, value_take]
      refine ⟨_, rfl, a, dx2, fs2, rfl, l1, l2, _, rfl, G2, a, -999, 999, r2, rfl, x2.sub, R2, fun e3 => kN (by rw [pe, e3]; rfl) G2 H2 X2, fun st r3 e3 H3 x3 R3 => ?_⟩
      exact ⟨_, rfl, _, rfl, fun x dx nx nd ne => made_by (ws := [v2, .int st]) rfl (fin st r3 H3 x3 R3 (by rw [pe, e3]; rfl) x dx nx nd ne)⟩
    | false =>
      refine iteF ?_
      have pe : pieceM (rowM d) (0 :: r) = some (Piece.deed dd 0, r2) := by
        show (readDeed r).bind _ = _
        rw [e2]
        show ((if VamacBase.hasNumber dd = true then readValue r2 else some (0, r2)).map fun s => (Piece.deed dd s.1, s.2)) = _
        rw [c, if_neg Bool.false_ne_true]
        rfl
      exact ⟨_, rfl, _, rfl, fun x dx nx nd ne => made_by (ws := [v2, .int 0]) rfl (fin 0 r2 H2 (Ext.refl x2.sub) R2 pe x dx nx nd ne)⟩
  refine ⟨_, rfl, rfl, _, rfl, ?_⟩
  obtain ⟨dx1, fs1, j1, j2⟩ := R1.ins (m := "take") (by decide +kernel) (by decide +kernel)
  refine if_dec (fun c => ?_) (fun c1 => ?_)
  · -- a loop of so many rounds
    have c' : z = 1 := V.int.inj c
    subst c'
    have pe : pieceM (rowM d) (1 :: r) = (take 1 9 r).bind fun k => (rowM d k.2).map fun b => (Piece.times k.1.toNat b.1, b.2) := by
      show (readNat 1 9 r).bind _ = _
      rw [nat_take]
      cases take 1 9 r with
      | none =>
        show (none : Option _) = _
        rfl
      | some u => rfl
    refine ⟨_, rfl, a, dx1, fs1, rfl, j1, j2, G, a, 1, 9, r, rfl, e1.sub, R1, fun e2 => kN (by rw [pe, e2]; rfl) G H1 e1, fun n r2 e2 H2 x2 R2 => ?_⟩
    have hn := (take_some e2).2
    have X2 := e1.trans x2
    refine ⟨_, rfl, _, rfl, _, rfl, _, _, rfl, rfl, G, a, deep + 1, r2, rfl, by omega, x2.sub, R2, fun e3 G3 H3 x3 => kN (by rw [pe, e2]; show (rowM d r2).map _ = none; rw [e3]; rfl) G3 H3 (X2.trans x3), fun p r3 e3 G3 H3 q x3 R3 W3 => ?_⟩
    refine fun x dx nx nd ne => made_by (ws := [.int n, .ref q]) rfl ?_
    refine kS (.times n.toNat p) r3 (by rw [pe, e2]; show (rowM d r2).map _ = _; rw [e3]; rfl) (upd G3 x _) _ _ ((X2.trans x3).trans (Ext.made x3.sub nx nd)) (R3.made x3.sub nx nd) ⟨x, dx, q, rfl, ?_, W3.mono (same_new (x3.sub.free nx))⟩
    rw [upd_same, show ((n.toNat : Nat) : Int) = n by omega]
    rfl
  refine ⟨_, rfl, rfl, _, rfl, ?_⟩
  -- the row of a loop to the end, of a part
  have fin : ∀ (G2 H2 : Hp) (r2 : List Int) (mk : Prog → Piece), (∀ b G' v, (∃ p dx q, v = V.ref p ∧ G' p = some (HO.ins A.c_TableBoundPiece dx [("row", .ref q)]) ∧ RowAt A G' q b) → PieceAt A G' v (mk b)) → Ext G H G2 H2 (· = a) → Rdr A G2 H2 a r2 → pieceM (rowM d) (z :: r) = ((rowM d r2).map fun b => (mk b.1, b.2)) →
      spRow A d [.ref a, .int (deep + 1)] H2 (fun y H3 => ∀ x dx, H3 x = none → H3 dx = none → dx ≠ x → spInit A.c_TableBoundPiece ["row"] (.ref x :: ([y] ++ [])) (upd (upd H3 dx (.own x)) x (.ins A.c_TableBoundPiece dx [])) (fun v H4 => v = .non ∧ Q (.ref x) H4) E0) E := fun G2 H2 r2 mk hmk X2 R2 pe => by
    refine ⟨G2, a, deep + 1, r2, rfl, by omega, X2.sub, R2, fun e3 G3 H3 x3 => kN (by rw [pe, e3]; rfl) G3 H3 (X2.trans x3), fun p r3 e3 G3 H3 q x3 R3 W3 => ?_⟩
    refine fun x dx nx nd ne => made_by (ws := [.ref q]) rfl ?_
    exact kS (mk p) r3 (by rw [pe, e3]; rfl) (upd G3 x _) _ _ ((X2.trans x3).trans (Ext.made x3.sub nx nd)) (R3.made x3.sub nx nd) (hmk _ _ _ ⟨x, dx, q, rfl, upd_same, W3.mono (same_new (x3.sub.free nx))⟩)
  refine if_dec (fun c => ?_) (fun c2 => ?_)
  · have c' : z = 3 := V.int.inj c
    subst c'
    have pe : pieceM (rowM d) (3 :: r) = (take 0 2 r).bind fun f => (take (-999) 999 f.2).bind fun v => (rowM d v.2).map fun b => (Piece.when f.1.toNat v.1 b.1, b.2) := by
      show ((readNat 0 2 r).bind fun u => (readValue u.2).map fun v => ((u.1, v.1), v.2)).bind _ = _
      rw [nat_take]
      show (((take 0 2 r).map fun u => (u.1.toNat, u.2)).bind fun u => (readValue u.2).map fun v => ((u.1, v.1), v.2)).bind _ = _
      cases take 0 2 r with
      | none => rfl
      | some u =>
        show ((readValue u.2).map fun v => ((u.1.toNat, v.1), v.2)).bind _ = (take (-999) 999 u.2).bind _
        rw [value_take]
        cases take (-999) 999 u.2 with
        | none => rfl
        | some v => rfl
    refine ⟨_, rfl, a, dx1, fs1, rfl, j1, j2, G, a, 0, 2, r, rfl, e1.sub, R1, fun e2 => kN (by rw [pe, e2]; rfl) G H1 e1, fun f r2 e2 H2 x2 R2 => ?_⟩
    obtain ⟨dx2, fs2, l1, l2⟩ := R2.ins (m := "take") (by decide +kernel) (by decide +kernel)
    refine ⟨_, rfl, a, dx2, fs2, rfl, l1, l2, _, rfl, G, a, -999, 999, r2, rfl, x2.sub, R2, fun e3 => kN (by rw [pe, e2]; show (take (-999) 999 r2).bind _ = none; rw [e3]; rfl) G H2 (e1.trans x2), fun v r3 e3 H3 x3 R3 => ?_⟩
    refine ⟨_, rfl, _, rfl, _, _, rfl, rfl, ?_⟩
    exact fin G H3 r3 (Piece.when f.toNat v) (fun _ _ _ q => q) ((e1.trans x2).trans x3) R3 (by rw [pe, e2]; show (take (-999) 999 r2).bind _ = _; rw [e3]; rfl)
  · have c' : z = 2 := by
      have a0 : z ≠ 0 := fun q => c0 (by rw [q])
      have a1 : z ≠ 1 := fun q => c1 (by rw [q])
      have a3 : z ≠ 3 := fun q => c2 (by rw [q])
      omega
    subst c'
    refine ⟨_, rfl, _, rfl, _, _, rfl, rfl, ?_⟩
    exact fin G H1 r Piece.toEnd (fun _ _ _ q => q) e1 R1 rfl
end
end Lf

set_option Elab.async false
set_option linter.all false
set_option maxRecDepth 100000
set_option maxHeartbeats 4000000
/-! # Rows and whole programs -/
namespace Lf
open PySem PySem.Spec PyProof.Rows L2
open VamacBase (Deed Prog readDeed readTimes readNat readListed readValue readField whole)

/-- a promise that nobody can ask for -/
theorem Okf.none_ {P : Program} {w : World} {K : PySem.W.Frag} {mg : Str → Option Value} {base : Heap} {CX : CXT} {k : Nat} {x qual : Str} {st : Stmt} {f : Addr} {ps : List Str} {sp : Sp} (D : Dft K x qual st ps f) (no : ∀ vs H Q E, ¬ sp vs H Q E) : Okf P w K mg base CX k f ps sp := by
  obtain ⟨fd, F, b⟩ := D
  exact ⟨fd, ⟨fun vs H Q E h => absurd h (no vs H Q E), fun A outer s H args us vs Q E _ _ _ _ h => absurd h (no vs H Q E)⟩, b, F.kp⟩
/-! ### kinds of pieces -/
def clsOf (A : Ad) : Piece → Addr
  | .deed _ _ => A.c_DeedPiece
  | .times _ _ => A.c_LoopPiece
  | .toEnd _ => A.c_TableBoundPiece
  | .when _ _ _ => A.c_TableBoundPiece
def Piece.isDeed : Piece → Bool
  | .deed _ _ => true
  | _ => false
def Piece.isLoop : Piece → Bool
  | .times _ _ => true
  | _ => false
def Piece.isBound : Piece → Bool
  | .toEnd _ => true
  | .when _ _ _ => true
  | _ => false
def Piece.body : Piece → Option Prog
  | .deed _ _ => none
  | .times _ b => some b
  | .toEnd b => some b
  | .when _ _ b => some b
theorem depth_piece : ∀ {p : Prog} {u : Piece}, u ∈ pieces p → u.depth ≤ p.depth
  | .done, u, h => by cases h
  | .deed d s r, u, h => by
    cases h with
    | head => exact Nat.zero_le _
    | tail _ h => exact depth_piece (p := r) h
  | .times n b r, u, h => by
    cases h with
    | head => exact Nat.le_max_left _ _
    | tail _ h => exact Nat.le_trans (depth_piece h) (Nat.le_max_right _ _)
  | .toEnd b r, u, h => by
    cases h with
    | head => exact Nat.le_max_left _ _
    | tail _ h => exact Nat.le_trans (depth_piece h) (Nat.le_max_right _ _)
  | .when f v b r, u, h => by
    cases h with
    | head => exact Nat.le_max_left _ _
    | tail _ h => exact Nat.le_trans (depth_piece h) (Nat.le_max_right _ _)
theorem depth_body {u : Piece} {b : Prog} (h : u.body = some b) : b.depth < u.depth := by
  cases u with
  | deed _ _ => cases h
  | times n b' => cases h; exact Nat.lt_succ_self _
  | toEnd b' => cases h; exact Nat.lt_succ_self _
  | when _ _ b' => cases h; exact Nat.lt_succ_self _
section
variable {P : Program} {w : World} {K : PySem.W.Frag} {mg : Str → Option Value} {base : Heap} {A : Ad}
theorem piece_ty (T : Txt K mg A) {G H : Hp} {v : V} {u : Piece} (s : Same G H) (h : PieceAt A G v u) : TyX K H v (.ref (clsOf A u)) := by
  cases u with
  | deed d st =>
    obtain ⟨p, dx, w, rfl, h1, _⟩ := h
    exact .base (.ins (s _ _ h1) T.cl_DeedPiece T.is_DeedPiece.ha T.is_DeedPiece.hn T.is_DeedPiece.htk T.is_DeedPiece.hm)
  | times n b =>
    obtain ⟨p, dx, w, rfl, h1, _⟩ := h
    exact .base (.ins (s _ _ h1) T.cl_LoopPiece T.is_LoopPiece.ha T.is_LoopPiece.hn T.is_LoopPiece.htk T.is_LoopPiece.hm)
  | toEnd b =>
    obtain ⟨p, dx, w, rfl, h1, _⟩ := h
    exact .base (.ins (s _ _ h1) T.cl_TableBoundPiece T.is_TableBoundPiece.ha T.is_TableBoundPiece.hn T.is_TableBoundPiece.htk T.is_TableBoundPiece.hm)
  | when f v b =>
    obtain ⟨p, dx, w, rfl, h1, _⟩ := h
    exact .base (.ins (s _ _ h1) T.cl_TableBoundPiece T.is_TableBoundPiece.ha T.is_TableBoundPiece.hn T.is_TableBoundPiece.htk T.is_TableBoundPiece.hm)
theorem ki_deed (T : Txt K mg A) (u : Piece) : PySem.W.kitOne K (.ref (clsOf A u)) (.ref A.c_DeedPiece) = some u.isDeed := by
  cases u with
  | deed _ _ => exact T.ki_DeedPiece_DeedPiece
  | times _ _ => exact T.ki_LoopPiece_DeedPiece
  | toEnd _ => exact T.ki_TableBoundPiece_DeedPiece
  | when _ _ _ => exact T.ki_TableBoundPiece_DeedPiece
theorem ki_loop (T : Txt K mg A) (u : Piece) : PySem.W.kitOne K (.ref (clsOf A u)) (.ref A.c_LoopPiece) = some u.isLoop := by
  cases u with
  | deed _ _ => exact T.ki_DeedPiece_LoopPiece
  | times _ _ => exact T.ki_LoopPiece_LoopPiece
  | toEnd _ => exact T.ki_TableBoundPiece_LoopPiece
  | when _ _ _ => exact T.ki_TableBoundPiece_LoopPiece
theorem ki_bound (T : Txt K mg A) (u : Piece) : PySem.W.kitOne K (.ref (clsOf A u)) (.ref A.c_TableBoundPiece) = some u.isBound := by
  cases u with
  | deed _ _ => exact T.ki_DeedPiece_TableBoundPiece
  | times _ _ => exact T.ki_LoopPiece_TableBoundPiece
  | toEnd _ => exact T.ki_TableBoundPiece_TableBoundPiece
  | when _ _ _ => exact T.ki_TableBoundPiece_TableBoundPiece
/-- the row within a piece -/
theorem piece_row (T : Txt K mg A) {G : Hp} {v : V} {u : Piece} {b : Prog} (h : PieceAt A G v u) (hb : u.body = some b) : ∃ p C dx fs q, v = .ref p ∧ G p = some (.ins C dx fs) ∧ Cls K C ∧ NoAttr K C "row" ∧ fs.lookup ("row" : Str) = some (.ref q) ∧ RowAt A G q b := by
  cases u with
  | deed _ _ => cases hb
  | times n b' =>
    cases hb
    obtain ⟨p, dx, q, rfl, h1, h2⟩ := h
    exact ⟨p, _, dx, _, q, rfl, h1, T.cl_LoopPiece, T.na_LoopPiece_row, (lk_past (by decide +kernel)).trans lk_here, h2⟩
  | toEnd b' =>
    cases hb
    obtain ⟨p, dx, q, rfl, h1, h2⟩ := h
    exact ⟨p, _, dx, _, q, rfl, h1, T.cl_TableBoundPiece, T.na_TableBoundPiece_row, lk_here, h2⟩
  | when _ _ b' =>
    cases hb
    obtain ⟨p, dx, q, rfl, h1, h2⟩ := h
    exact ⟨p, _, dx, _, q, rfl, h1, T.cl_TableBoundPiece, T.na_TableBoundPiece_row, lk_here, h2⟩

theorem row_step {d k : Nat} (T : Txt K mg A) (hk : 1 ≤ k) (G_read_piece : Okf P w K mg base (L2.CX P w) k A.f_read_piece ["reader", "deep"] (spPiece A d)) : Okf P w K mg base (L2.CX P w) (k + 1) A.f_read_row ["reader", "deep"] (spRow A (d + 1)) := by
  have G_Reader_take := ok_Reader_take (P := P) (w := w) (base := base) T
  obtain ⟨fd, F, b⟩ := T.d_read_row
  refine ⟨fd, F.okX sc_read_row (fun vs H Q E h => ?_) (fun cdv AA outer s H vs Q E hr h => ?_), b, F.kp⟩
  · obtain ⟨G, a, deep, x, rfl, _⟩ := h
    rfl
  obtain ⟨G, a, deep, x, rfl, hd, hS, hR, kN, kS⟩ := h
  refine ⟨_, (pss_cons (ps_if (pt_cmpR op_gt (pv 1) (pe_glob (v := V.int 3) rfl T.i_MOST_DEEP.choose_spec ⟨_, rfl⟩) (nomark _)) (pss_one (ps_raise rfl (takes_of rfl rfl rfl rfl) (pmk_own0 PySem.F.excBase_Exception T.er_NotWhole.x T.er_NotWhole.g T.er_NotWhole.k (raises_own T.er_NotWhole.b T.er_NotWhole.t) (by exact rfl)))) pss_nil)
      (pss_cons (ps_set (i := 2) sc_read_row.nd rfl (Or.inl rfl) (pe_lst pa_nil))
      (pss_cons (ps_for (passes_of rfl) rfl (pi_range1 rfl T.z_range (pa_cons (call_m (pv 0) T.cl_Reader T.me_Reader_take G_Reader_take (hr.mono (by omega)) (passes_call (takes_of rfl rfl rfl rfl) (fun _ _ _ _ h => h)) (pa_cons pe_int (pa_cons (pe_glob (v := V.int 16) rfl T.i_MOST_PIECES.choose_spec ⟨_, rfl⟩) pa_nil))) pa_nil)) (pg_name (i := 3) sc_read_row.nd rfl (Or.inl rfl)) (pss_one (ps_expr (pe_bm PySem.F.plainAttrs_list PySem.F.slot_list_append PySem.F.type_list_append mt_append (pv 2) (pa_cons (call_f G_read_piece (hr.mono (by omega)) rfl T.g_read_piece (passes_call (takes_of rfl rfl rfl rfl) (fun _ _ _ _ h => h)) (pa_cons (pv 0) (pa_cons (pv 1) pa_nil))) pa_nil)))))
      (pss_one (ps_ret (pv 2)))))), ?_⟩
  refine ⟨_, rfl, _, _, rfl, rfl, _, rfl, ?_⟩
  refine if_dec (fun c => absurd c (by omega)) (fun _ => ?_)
  refine ⟨(by show 0 ≤ sizeLine; decide), fun l hl => ?_⟩
  have E2 : Ext G H G (upd H l (.lst [])) (· = a) := Ext.open_ hS hl
  have R2 := hR.upd_new (o := .lst []) hl
  obtain ⟨oa, qa⟩ := hR.there
  have xl : a ≠ l := ne_of_none qa hl
  have gl : G l = none := hS.free hl
  obtain ⟨dx2, fs2, l1, l2⟩ := R2.ins (m := "take") (by decide +kernel) (by decide +kernel)
  have pe : rowM (d + 1) x = (take 0 16 x).bind fun k => (readTimes (pieceM (rowM d)) k.1.toNat k.2).map fun l => (ofPieces l.1, l.2) := by
    show (readNat 0 16 x).bind _ = _
    rw [nat_take]
    show ((take 0 16 x).map _).bind _ = _
    cases take 0 16 x with
    | none => rfl
    | some u => rfl
  refine ⟨_, rfl, a, dx2, fs2, rfl, l1, l2, G, a, 0, 16, x, rfl, E2.sub, R2, fun e => kN (by rw [pe, e]; rfl) G _ E2, fun z r e H3 e3 R3 => ?_⟩
  have E3 := E2.trans e3
  have hz := (take_some e).2
  rw [e] at pe
  have h3l : H3 l = some (.lst []) := e3.keep _ _ upd_same fun q => xl q.symm
  refine ⟨z, rfl, by omega, by omega, for_range (lo := 0) (n := z.toNat) (fun i σ H' => ∃ (v : Option V) (G' : Hp) (us : List Piece) (vs : List V) (r' : List Int), σ = [some (.ref a), some (.int deep), some (.ref l), v] ∧ Ext G H G' H' (· = a) ∧ Rdr A G' H' a r' ∧ G' l = none ∧ H' l = some (.lst vs) ∧ All2 (PieceAt A G') vs us ∧ us.length = i ∧
    readTimes (pieceM (rowM d)) z.toNat r = (readTimes (pieceM (rowM d)) (z.toNat - i) r').map fun v => (us ++ v.1, v.2)) ?_ ?_ ?_⟩
  · refine ⟨none, G, [], [], r, rfl, E3, R3, gl, h3l, .nil, rfl, ?_⟩
    show _ = (readTimes (pieceM (rowM d)) z.toNat r).map fun v => v
    simp
  · rintro i σ H' hi ⟨v, G', us, vs, r', rfl, X1, R4, g4, h4, a4, len, eq⟩
    obtain ⟨f1, f2⟩ := times_step' eq hi
    refine ⟨_, rfl, .inl ⟨rfl, _, SqL.of h4⟩, _, rfl, _, rfl, G', a, deep, r', rfl, by omega, X1.sub, R4, fun e5 G5 H5 x5 => kN (by rw [pe]; show (readTimes (pieceM (rowM d)) z.toNat r).map _ = none; rw [f1 e5]; rfl) G5 H5 (X1.trans x5), fun u r5 e5 G5 H5 v5 x5 R5 D5 => ?_⟩
    have h5 : H5 l = some (.lst vs) := x5.keep _ _ h4 fun q => xl q.symm
    have g5 : G5 l = none := x5.fresh _ _ h4 g4
    have hlen := a4.length
    refine ⟨l, _, _, rfl, rfl, h5, small1000 (by omega), ?_⟩
    exact ⟨_, G5, us ++ [u], vs ++ [v5], r5, rfl, (X1.trans x5).put hl g5, R5.upd_other xl, g5, upd_same, (a4.pieces x5.mono).append (.one D5), by rw [List.length_append, len]; rfl, f2 u r5 e5⟩
  · rintro σ H' ⟨v, G', us, vs, r', rfl, X1, R4, g4, h4, a4, len, eq⟩
    rw [Nat.sub_self] at eq
    have eq' : rowM (d + 1) x = some (ofPieces us, r') := by
      rw [pe]
      show (readTimes (pieceM (rowM d)) z.toNat r).map _ = _
      rw [eq]
      show some (ofPieces (us ++ []), r') = _
      rw [List.append_nil]
    refine ⟨_, rfl, ?_⟩
    refine kS (ofPieces us) r' eq' (upd G' l (.lst vs)) H' l (X1.seal hl h4 g4) ?_ (row_from upd_same (a4.pieces (same_new g4)))
    exact R4.mono (same_new g4) (fun _ q => q) fun q => by
      rw [upd_ne xl]
      exact q
theorem row_zero {k : Nat} (T : Txt K mg A) (hk : 1 ≤ k) : Okf P w K mg base (L2.CX P w) (k + 1) A.f_read_row ["reader", "deep"] (spRow A 0) := by
  have G_Reader_take := ok_Reader_take (P := P) (w := w) (base := base) T
  have G_read_piece : Okf P w K mg base (L2.CX P w) k A.f_read_piece ["reader", "deep"] (fun _ _ _ _ => False) := Okf.none_ T.d_read_piece fun _ _ _ _ z => z
  obtain ⟨fd, F, b⟩ := T.d_read_row
  refine ⟨fd, F.okX sc_read_row (fun vs H Q E h => ?_) (fun cdv AA outer s H vs Q E hr h => ?_), b, F.kp⟩
  · obtain ⟨G, a, deep, x, rfl, _⟩ := h
    rfl
  obtain ⟨G, a, deep, x, rfl, hd, hS, hR, kN, kS⟩ := h
  refine ⟨_, (pss_cons (ps_if (pt_cmpR op_gt (pv 1) (pe_glob (v := V.int 3) rfl T.i_MOST_DEEP.choose_spec ⟨_, rfl⟩) (nomark _)) (pss_one (ps_raise rfl (takes_of rfl rfl rfl rfl) (pmk_own0 PySem.F.excBase_Exception T.er_NotWhole.x T.er_NotWhole.g T.er_NotWhole.k (raises_own T.er_NotWhole.b T.er_NotWhole.t) (by exact rfl)))) pss_nil)
      (pss_cons (ps_set (i := 2) sc_read_row.nd rfl (Or.inl rfl) (pe_lst pa_nil))
      (pss_cons (ps_for (passes_of rfl) rfl (pi_range1 rfl T.z_range (pa_cons (call_m (pv 0) T.cl_Reader T.me_Reader_take G_Reader_take (hr.mono (by omega)) (passes_call (takes_of rfl rfl rfl rfl) (fun _ _ _ _ h => h)) (pa_cons pe_int (pa_cons (pe_glob (v := V.int 16) rfl T.i_MOST_PIECES.choose_spec ⟨_, rfl⟩) pa_nil))) pa_nil)) (pg_name (i := 3) sc_read_row.nd rfl (Or.inl rfl)) (pss_one (ps_expr (pe_bm PySem.F.plainAttrs_list PySem.F.slot_list_append PySem.F.type_list_append mt_append (pv 2) (pa_cons (call_f G_read_piece (hr.mono (by omega)) rfl T.g_read_piece (passes_call (takes_of rfl rfl rfl rfl) (fun _ _ _ _ h => h)) (pa_cons (pv 0) (pa_cons (pv 1) pa_nil))) pa_nil)))))
      (pss_one (ps_ret (pv 2)))))), ?_⟩
  refine ⟨_, rfl, _, _, rfl, rfl, _, rfl, ?_⟩
  exact if_dec (fun _ => kN rfl G H (Ext.refl hS)) (fun c => absurd (by omega) c)
/-- rows up to d deep: 2 levels for each -/
theorem ok_row (T : Txt K mg A) : ∀ d : Nat, Okf P w K mg base (L2.CX P w) (2 * d + 2) A.f_read_row ["reader", "deep"] (spRow A d)
  | 0 => row_zero T (Nat.le_refl 1)
  | d + 1 => row_step T (by omega) (piece_step T (by omega) (ok_row T d))

/-! ### pieces counted -/
def spCount (A : Ad) (d : Nat) : Sp := fun vs H Q _ => ∃ (G : Hp) (q : Addr) (p : Prog), vs = [.ref q] ∧ p.depth < d ∧ Same G H ∧ RowAt A G q p ∧ Q (.int p.size) H
theorem sum_take_succ {l : List Nat} {i n : Nat} (h : l[i]? = some n) : (l.take (i + 1)).sum = (l.take i).sum + n := by
  rw [List.take_add_one, h]
  simp
theorem count_step {d k : Nat} (T : Txt K mg A) (G_count_pieces : Okf P w K mg base CX0 k A.f_count_pieces ["row"] (spCount A d)) : Okf P w K mg base CX0 (k + 1) A.f_count_pieces ["row"] (spCount A (d + 1)) := by
  obtain ⟨fd, F, b⟩ := T.d_count_pieces
  refine ⟨fd, F.ok sc_count_pieces (fun vs H Q E h => ?_) (fun cdv AA outer s H vs Q E hr h => ?_), b, F.kp⟩
  · obtain ⟨G, q, p, rfl, _⟩ := h
    rfl
  obtain ⟨G, q, p, rfl, hd, hS, hW, kQ⟩ := h
  refine ⟨_, (pss_cons (ps_set (i := 1) sc_count_pieces.nd rfl (Or.inl rfl) (pe_callB call_len_seq (by rfl) T.z_len PySem.boot_len (pa_cons (pv 0) pa_nil)))
      (pss_cons (ps_for PassesOwn.never rfl (pi_list (pv 0)) (pg_name (i := 2) sc_count_pieces.nd rfl (Or.inl rfl)) (pss_one (ps_if (pt_not (pt_val (pe_callB call_isi (by rfl) T.z_isinstance (by decide +kernel) (pa_cons (pv 2) (pa_cons (pe_glob (v := V.ref A.c_DeedPiece) rfl T.g_DeedPiece rfl) pa_nil))))) (pss_one (ps_set (i := 1) sc_count_pieces.nd rfl (Or.inl rfl) (pe_op op_add (pv 1) (call_f G_count_pieces (hr.mono (by omega)) rfl T.g_count_pieces pass0 (pa_cons (pe_fld (pv 2) rfl) pa_nil))))) pss_nil)))
      (pss_one (ps_ret (pv 1))))), ?_⟩
  obtain ⟨ws, h1, a1⟩ := row_to hW
  have hL : SqL K H q ws := SqL.of (hS _ _ h1)
  refine ⟨_, rfl, q, _, rfl, .inl hL, ?_⟩
  refine ⟨_, rfl, q, rfl, ⟨_, hL⟩, for_list (K := K) (a := q) (xs := ws) (fun i σ H' => H' = H ∧ ∃ v : Option V, σ = [some (.ref q), some (.int (((pieces p).length + (((pieces p).map Piece.inner).take i).sum : Nat) : Int)), v]) ⟨rfl, none, ?_⟩ ?_ ?_ ?_⟩
  · rw [← a1.length]
    rfl
  · rintro i σ H' _ ⟨rfl, _⟩
    exact hL
  · rintro i y σ H' hi ⟨rfl, v, rfl⟩
    obtain ⟨u, hu, hp⟩ := a1.get hi
    have hm : u ∈ pieces p := List.mem_of_getElem? hu
    have hs := sum_take_succ (l := (pieces p).map Piece.inner) (i := i) (n := u.inner) (by rw [List.getElem?_map, hu]; rfl)
    refine ⟨_, rfl, _, _, _, _, _, rfl, .own _, piece_ty T hS hp, ki_deed T u, _, rfl, ?_⟩
    cases e : u.body with
    | none =>
      cases u with
      | deed dd st =>
        refine iteF ?_
        refine ⟨rfl, some y, ?_⟩
        rw [hs]
        rfl
      | times _ _ => cases e
      | toEnd _ => cases e
      | when _ _ _ => cases e
    | some bd =>
      obtain ⟨a, C, dx, fs, q2, rfl, g1, c1, n1, k1, w1⟩ := piece_row T hp e
      have hnd : u.isDeed = false := by
        cases u with
        | deed _ _ => cases e
        | _ => rfl
      have hin : u.inner = bd.size := by
        cases u with
        | deed _ _ => cases e
        | times _ _ => cases e; rfl
        | toEnd _ => cases e; rfl
        | when _ _ _ => cases e; rfl
      refine if_true_of (by rw [hnd]; rfl) ?_
      refine ⟨_, rfl, _, rfl, a, C, dx, fs, _, rfl, hS _ _ g1, c1, n1, k1, G, q2, bd, rfl, ?_, hS, w1, _, _, rfl, rfl, rfl, some (.ref a), ?_⟩
      · have := depth_piece hm
        have := depth_body e
        omega
      · rw [hs, hin, ← Nat.add_assoc, Int.natCast_add]
        rfl
  · rintro σ H' ⟨rfl, v, rfl⟩
    refine ⟨_, rfl, ?_⟩
    have e : ((pieces p).map Piece.inner).take ws.length = (pieces p).map Piece.inner := by
      rw [a1.length]
      exact List.take_of_length_le (by rw [List.length_map]; exact Nat.le_refl _)
    rw [e, ← size_pieces]
    exact kQ
theorem ok_count (T : Txt K mg A) : ∀ d : Nat, Okf P w K mg base CX0 d A.f_count_pieces ["row"] (spCount A d)
  | 0 => Okf.none_ T.d_count_pieces fun _ _ _ _ ⟨_, _, _, _, z, _⟩ => absurd z (Nat.not_lt_zero _)
  | d + 1 => count_step T (ok_count T d)

/-! ### a whole program -/
def spWholeProg (A : Ad) : Sp := fun vs H Q E => ∃ (G : Hp) (n : Addr) (ns : List Int), vs = [.ref n] ∧ Same G H ∧ G n = some (.lst (ns.map V.int)) ∧
  (whole VamacBase.readProg ns = none → ∀ G' H', Ext G H G' H' none_ → E (.ref A.c_NotWhole) none H') ∧
  ∀ p, whole VamacBase.readProg ns = some p → VamacBase.okPieces p = true → p.depth < 4 → p.size ≤ 16 → ∀ (G' H' : Hp) (q : Addr), Ext G H G' H' none_ → RowAt A G' q p → Q (.ref q) H'
theorem ok_whole_program (T : Txt K mg A) : Okf P w K mg base (L2.CX P w) 11 A.f_whole_program ["numbers"] (spWholeProg A) := by
  have G_Reader_init := ok_Reader_init (P := P) (w := w) (base := base) T
  have G_Reader_finish := ok_Reader_finish (P := P) (w := w) (base := base) T
  have G_read_row := ok_row (P := P) (w := w) (base := base) T 4
  have G_count_pieces := ok_count (P := P) (w := w) (base := base) T 4
  obtain ⟨fd, F, b⟩ := T.d_whole_program
  refine ⟨fd, F.okX sc_whole_program (fun vs H Q E h => ?_) (fun cdv AA outer s H vs Q E hr h => ?_), b, F.kp⟩
  · obtain ⟨G, n, ns, rfl, _⟩ := h
    rfl
  obtain ⟨G, n, ns, rfl, hS, hn, kN, kS⟩ := h
  refine ⟨_, (pss_cons (ps_set (i := 1) sc_whole_program.nd rfl (Or.inl rfl) (call_c T.mk_Reader G_Reader_init (hr.mono (by omega)) rfl T.g_Reader pass0 (pa_cons (pv 0) pa_nil)))
      (pss_cons (ps_set (i := 2) sc_whole_program.nd rfl (Or.inl rfl) (call_f G_read_row (hr.mono (by omega)) rfl T.g_read_row (passes_call (takes_of rfl rfl rfl rfl) (fun _ _ _ _ h => h)) (pa_cons (pv 1) (pa_cons pe_int pa_nil))))
      (pss_cons (ps_expr (call_m0 (pv 1) T.cl_Reader T.me_Reader_finish G_Reader_finish (hr.mono (by omega)) (passes_call (takes_of rfl rfl rfl rfl) (fun _ _ _ _ h => h))))
      (pss_cons (ps_if (pt_cmpR op_gt (call_f G_count_pieces (hr.mono (by omega)) rfl T.g_count_pieces pass0 (pa_cons (pv 2) pa_nil)) (pe_glob (v := V.int 16) rfl T.i_MOST_PIECES.choose_spec ⟨_, rfl⟩) (nomark _)) (pss_one (ps_raise rfl (takes_of rfl rfl rfl rfl) (pmk_own0 PySem.F.excBase_Exception T.er_NotWhole.x T.er_NotWhole.g T.er_NotWhole.k (raises_own T.er_NotWhole.b T.er_NotWhole.t) (by exact rfl)))) pss_nil)
      (pss_one (ps_ret (pv 2))))))), ?_⟩
  refine ⟨_, rfl, fun x dx nx nd ne => ⟨x, dx, _, rfl, upd_same, rfl, ?_⟩⟩
  rw [upd_upd]
  have E1 : Ext G H G (mkH H x dx A.c_Reader [("numbers", .ref n), ("place", .int 0)]) none_ := Ext.madeO hS nx nd
  have R1 := Rdr.new (A := A) (dx := dx) hS nx hn
  have pr := prog_read ns
  refine ⟨_, rfl, G, x, 0, ns, rfl, rfl, E1.sub, R1, fun e G' H' e' => kN (by rw [pr, e]) G' H' (E1.then_ e' fun c q => .inr (q ▸ nx)), fun p r e G2 H2 q e2 R2 W2 => ?_⟩
  have E2 : Ext G H G2 H2 none_ := E1.then_ e2 fun c q => .inr (q ▸ nx)
  obtain ⟨dx2, fs2, l1, l2⟩ := R2.ins (m := "finish") (by decide +kernel) (by decide +kernel)
  refine ⟨_, rfl, x, dx2, fs2, rfl, l1, l2, G2, x, r, rfl, e2.sub, R2, fun n => kN ?_ G2 H2 E2, fun z => ?_⟩
  · rw [pr, e]
    cases r with
    | nil => exact absurd rfl n
    | cons _ _ => rfl
  subst z
  have pr' : whole VamacBase.readProg ns = if p.size ≤ VamacBase.PIECES then some p else none := by
    rw [pr, e]
  have dp := rowM_depth 4 e
  refine ⟨_, rfl, G2, q, p, rfl, dp, E2.sub, W2, _, _, rfl, rfl, _, rfl, ?_⟩
  refine if_dec (fun c => ?_) (fun c => ?_)
  · exact kN (by rw [pr']; exact if_neg (by show ¬ p.size ≤ 16; omega)) G2 H2 E2
  · exact ⟨_, rfl, kS p (by rw [pr']; exact if_pos (by show p.size ≤ 16; omega)) (rowM_ok 4 e) dp (by omega) G2 H2 q E2 W2⟩
end
end Lf

set_option Elab.async false
set_option linter.all false
set_option maxRecDepth 100000
set_option maxHeartbeats 4000000
/-! # What programs tell -/
namespace Lf
open PySem PySem.Spec PyProof.Rows L2
open VamacBase (Deed Prog readDeed readTimes readNat readListed readValue readField whole)

/-! ### mathematics -/
def Piece.ok : Piece → Prop
  | .deed d s => VamacBase.okDeed d = true ∧ VamacBase.okValue s = true
  | .times n b => 1 ≤ n ∧ n ≤ 9 ∧ VamacBase.okPieces b = true
  | .toEnd b => VamacBase.okPieces b = true
  | .when _ _ b => VamacBase.okPieces b = true
theorem ok_piece : ∀ {p : Prog} {u : Piece}, VamacBase.okPieces p = true → u ∈ pieces p → u.ok
  | .done, u, _, h => by cases h
  | .deed d s r, u, k, h => by
    have k' : (VamacBase.okDeed d && (VamacBase.okValue s && ((VamacBase.hasNumber d || s == 0) && VamacBase.okPieces r))) = true := k
    simp only [Bool.and_eq_true] at k'
    cases h with
    | head => exact ⟨k'.1, k'.2.1⟩
    | tail _ h => exact ok_piece (p := r) k'.2.2.2 h
  | .times n b r, u, k, h => by
    have k' : (decide (1 ≤ n) && (decide (n ≤ VamacBase.TIMES) && (VamacBase.okPieces b && VamacBase.okPieces r))) = true := k
    simp only [Bool.and_eq_true] at k'
    cases h with
    | head => exact ⟨of_decide_eq_true k'.1, of_decide_eq_true k'.2.1, k'.2.2.1⟩
    | tail _ h => exact ok_piece (p := r) k'.2.2.2 h
  | .toEnd b r, u, k, h => by
    have k' : (VamacBase.okPieces b && VamacBase.okPieces r) = true := k
    simp only [Bool.and_eq_true] at k'
    cases h with
    | head => exact k'.1
    | tail _ h => exact ok_piece (p := r) k'.2 h
  | .when f v b r, u, k, h => by
    have k' : (VamacBase.okField f && (VamacBase.okValue v && (VamacBase.okPieces b && VamacBase.okPieces r))) = true := k
    simp only [Bool.and_eq_true] at k'
    cases h with
    | head => exact k'.2.2.1
    | tail _ h => exact ok_piece (p := r) k'.2.2.2 h
theorem counted_piece {p : Prog} {u : Piece} (h : Vamacb.isCounted p = true) (m : u ∈ pieces p) : u.counted = true := by
  rw [counted_pieces] at h
  exact List.all_eq_true.mp h u m
theorem value_le {s : Int} (h : VamacBase.okValue s = true) : -999 ≤ s ∧ s ≤ 999 := by
  have h' : (decide ((0 - 999 : Int) ≤ s) && decide (s ≤ (999 : Int))) = true := h
  rw [Bool.and_eq_true] at h'
  have a := of_decide_eq_true h'.1
  have b := of_decide_eq_true h'.2
  omega
theorem rounds_length (body : Nat → List Deed) (m : Nat) (h : ∀ j, (body j).length = m) : ∀ n i, (Vamacb.unrollRounds body n i).length = n * m
  | 0, _ => by
    rw [Nat.zero_mul]
    rfl
  | n + 1, i => by
    show (body i ++ Vamacb.unrollRounds body n (i + 1)).length = _
    rw [List.length_append, h, rounds_length body m h n (i + 1), Nat.succ_mul]
    omega
theorem unroll_length : ∀ (p : Prog) (i : Nat), (Vamacb.unrollFrom p i).length = Vamacb.lengthOf p
  | .done, _ => rfl
  | .deed d s r, i => congrArg (· + 1) (unroll_length r i)
  | .times n b r, i => by
    show (Vamacb.unrollRounds (Vamacb.unrollFrom b) n 0 ++ Vamacb.unrollFrom r i).length = n * Vamacb.lengthOf b + Vamacb.lengthOf r
    rw [List.length_append, unroll_length r i, rounds_length _ _ (unroll_length b)]
  | .toEnd b r, i => unroll_length r i
  | .when f v b r, i => unroll_length r i
theorem sum_le {l : List Nat} {n : Nat} (h : n ∈ l) : n ≤ l.sum := by
  induction l with
  | nil => cases h
  | cons a l ih =>
    rw [List.sum_cons]
    cases h with
    | head => omega
    | tail _ h =>
      have := ih h
      omega
theorem len_le {p : Prog} {u : Piece} (m : u ∈ pieces p) : u.len ≤ Vamacb.lengthOf p := by
  rw [length_pieces]
  exact sum_le (List.mem_map.mpr ⟨u, m, rfl⟩)
theorem flatMap_take_le {α β : Type} (f : α → List β) (l : List α) (i : Nat) : ((l.take i).flatMap f).length ≤ (l.flatMap f).length := by
  have e : l.flatMap f = (l.take i).flatMap f ++ (l.drop i).flatMap f := by
    rw [← List.flatMap_append, List.take_append_drop]
  rw [e, List.length_append]
  exact Nat.le_add_right _ _
theorem flatMap_take_succ {α β : Type} (f : α → List β) {l : List α} {i : Nat} {a : α} (h : l[i]? = some a) : (l.take (i + 1)).flatMap f = (l.take i).flatMap f ++ f a := by
  rw [List.take_add_one, h, List.flatMap_append]
  simp
theorem range_flatMap_succ {β : Type} (f : Nat → List β) (j : Nat) : (List.range (j + 1)).flatMap f = (List.range j).flatMap f ++ f j := by
  rw [List.range_succ, List.flatMap_append]
  simp

section
variable {P : Program} {w : World} {K : PySem.W.Frag} {mg : Str → Option Value} {base : Heap} {A : Ad}
/-! ### a loop to the end or a part -/
def spBound (A : Ad) (d : Nat) : Sp := fun vs H Q _ => ∃ (G : Hp) (q : Addr) (p : Prog), vs = [.ref q] ∧ p.depth < d ∧ Same G H ∧ RowAt A G q p ∧ Q (.bl (!Vamacb.isCounted p)) H
theorem bound_step {d k : Nat} (T : Txt K mg A) (G_is_table_bound : Okf P w K mg base CX0 k A.f_is_table_bound ["row"] (spBound A d)) : Okf P w K mg base CX0 (k + 1) A.f_is_table_bound ["row"] (spBound A (d + 1)) := by
  obtain ⟨fd, F, b⟩ := T.d_is_table_bound
  refine ⟨fd, F.ok sc_is_table_bound (fun vs H Q E h => ?_) (fun cdv AA outer s H vs Q E hr h => ?_), b, F.kp⟩
  · obtain ⟨G, q, p, rfl, _⟩ := h
    rfl
  obtain ⟨G, q, p, rfl, hd, hS, hW, kQ⟩ := h
  refine ⟨_, (pss_cons (ps_for PassesOwn.never rfl (pi_list (pv 0)) (pg_name (i := 1) sc_is_table_bound.nd rfl (Or.inl rfl)) (pss_cons (ps_if (pt_val (pe_callB call_isi (by rfl) T.z_isinstance (by decide +kernel) (pa_cons (pv 1) (pa_cons (pe_glob (v := V.ref A.c_TableBoundPiece) rfl T.g_TableBoundPiece rfl) pa_nil)))) (pss_one (ps_ret pe_bl)) pss_nil)
      (pss_one (ps_if (PW.pt (pw_and (pt_val (pe_callB call_isi (by rfl) T.z_isinstance (by decide +kernel) (pa_cons (pv 1) (pa_cons (pe_glob (v := V.ref A.c_LoopPiece) rfl T.g_LoopPiece rfl) pa_nil)))) (pw_and1 (pt_val (call_f G_is_table_bound (hr.mono (by omega)) rfl T.g_is_table_bound pass0 (pa_cons (pe_fld (pv 1) rfl) pa_nil)))))) (pss_one (ps_ret pe_bl)) pss_nil))))
      (pss_one (ps_ret pe_bl))), ?_⟩
  obtain ⟨ws, h1, a1⟩ := row_to hW
  have hL : SqL K H q ws := SqL.of (hS _ _ h1)
  have no : ∀ u, u ∈ pieces p → u.counted = false → Q (.bl true) H := fun u m c => by
    have e : Vamacb.isCounted p = false := by
      cases e : Vamacb.isCounted p with
      | false => rfl
      | true =>
        rw [counted_piece e m] at c
        cases c
    rw [e] at kQ
    exact kQ
  refine ⟨_, rfl, q, rfl, ⟨_, hL⟩, for_list (K := K) (a := q) (xs := ws) (fun i σ H' => H' = H ∧ ((pieces p).take i).all Piece.counted = true ∧ ∃ v : Option V, σ = [some (.ref q), v]) ⟨rfl, by rw [List.take_zero]; rfl, none, rfl⟩ ?_ ?_ ?_⟩
  · rintro i σ H' _ ⟨rfl, _⟩
    exact hL
  · rintro i y σ H' hi ⟨rfl, hc, v, rfl⟩
    obtain ⟨u, hu, hp⟩ := a1.get hi
    have hm : u ∈ pieces p := List.mem_of_getElem? hu
    have more : u.counted = true → ((pieces p).take (i + 1)).all Piece.counted = true := fun c => by
      rw [List.take_add_one, hu, List.all_append, hc]
      simp [c]
    refine ⟨_, rfl, _, _, _, _, _, rfl, .own _, piece_ty T hS hp, ki_bound T u, _, rfl, ?_⟩
    cases u with
    | deed dd st =>
      refine iteF ?_
      refine ⟨_, rfl, _, _, _, _, _, rfl, .own _, piece_ty T hS hp, ki_loop T _, _, rfl, ?_⟩
      exact iteF (iteF ⟨rfl, more rfl, some y, rfl⟩)
    | times n bd =>
      refine iteF ?_
      refine ⟨_, rfl, _, _, _, _, _, rfl, .own _, piece_ty T hS hp, ki_loop T _, _, rfl, ?_⟩
      refine iteT ?_
      obtain ⟨a, C, dx, fs, q2, rfl, g1, c1, n1, k1, w1⟩ := piece_row T hp rfl
      refine ⟨_, rfl, a, C, dx, fs, _, rfl, hS _ _ g1, c1, n1, k1, G, q2, bd, rfl, ?_, hS, w1, _, rfl, ?_⟩
      · have := depth_piece hm
        have : bd.depth < (Piece.times n bd).depth := depth_body rfl
        omega
      · cases e : Vamacb.isCounted bd with
        | true => exact iteF ⟨rfl, more e, some (.ref a), rfl⟩
        | false => exact iteT (no _ hm e)
    | toEnd bd => exact iteT (no _ hm rfl)
    | when f v bd => exact iteT (no _ hm rfl)
  · rintro σ H' ⟨rfl, hc, v, rfl⟩
    rw [a1.length, List.take_of_length_le (Nat.le_refl _), ← counted_pieces] at hc
    rw [hc] at kQ
    exact kQ
theorem ok_bound (T : Txt K mg A) : ∀ d : Nat, Okf P w K mg base CX0 d A.f_is_table_bound ["row"] (spBound A d)
  | 0 => Okf.none_ T.d_is_table_bound fun _ _ _ _ ⟨_, _, _, _, z, _⟩ => absurd z (Nat.not_lt_zero _)
  | d + 1 => bound_step T (ok_bound T d)

/-! ### how many deeds -/
def spCountTold (A : Ad) (d : Nat) : Sp := fun vs H Q _ => ∃ (G : Hp) (q : Addr) (p : Prog), vs = [.ref q] ∧ p.depth < d ∧ Same G H ∧ RowAt A G q p ∧ Vamacb.isCounted p = true ∧ VamacBase.okPieces p = true ∧ Q (.int (Vamacb.lengthOf p)) H
theorem counttold_step {d k : Nat} (T : Txt K mg A) (G_count_told : Okf P w K mg base CX0 k A.f_count_told ["row"] (spCountTold A d)) : Okf P w K mg base CX0 (k + 1) A.f_count_told ["row"] (spCountTold A (d + 1)) := by
  obtain ⟨fd, F, b⟩ := T.d_count_told
  refine ⟨fd, F.ok sc_count_told (fun vs H Q E h => ?_) (fun cdv AA outer s H vs Q E hr h => ?_), b, F.kp⟩
  · obtain ⟨G, q, p, rfl, _⟩ := h
    rfl
  obtain ⟨G, q, p, rfl, hd, hS, hW, hc, hok, kQ⟩ := h
  refine ⟨_, (pss_cons (ps_set (i := 1) sc_count_told.nd rfl (Or.inl rfl) pe_int)
      (pss_cons (ps_for PassesOwn.never rfl (pi_list (pv 0)) (pg_name (i := 2) sc_count_told.nd rfl (Or.inl rfl)) (pss_one (ps_if (pt_val (pe_callB call_isi (by rfl) T.z_isinstance (by decide +kernel) (pa_cons (pv 2) (pa_cons (pe_glob (v := V.ref A.c_DeedPiece) rfl T.g_DeedPiece rfl) pa_nil)))) (pss_one (ps_set (i := 1) sc_count_told.nd rfl (Or.inl rfl) (pe_op op_add (pv 1) pe_int))) (pss_one (ps_set (i := 1) sc_count_told.nd rfl (Or.inl rfl) (pe_op op_add (pv 1) (pe_op op_mul (pe_fld (pv 2) rfl) (call_f G_count_told (hr.mono (by omega)) rfl T.g_count_told pass0 (pa_cons (pe_fld (pv 2) rfl) pa_nil)))))))))
      (pss_one (ps_ret (pv 1))))), ?_⟩
  obtain ⟨ws, h1, a1⟩ := row_to hW
  have hL : SqL K H q ws := SqL.of (hS _ _ h1)
  refine ⟨_, rfl, q, rfl, ⟨_, hL⟩, for_list (K := K) (a := q) (xs := ws) (fun i σ H' => H' = H ∧ ∃ v : Option V, σ = [some (.ref q), some (.int ((((pieces p).map Piece.len).take i).sum : Nat)), v]) ⟨rfl, none, rfl⟩ ?_ ?_ ?_⟩
  · rintro i σ H' _ ⟨rfl, _⟩
    exact hL
  · rintro i y σ H' hi ⟨rfl, v, rfl⟩
    obtain ⟨u, hu, hp⟩ := a1.get hi
    have hm : u ∈ pieces p := List.mem_of_getElem? hu
    have hs := sum_take_succ (l := (pieces p).map Piece.len) (i := i) (n := u.len) (by rw [List.getElem?_map, hu]; rfl)
    have hcu := counted_piece hc hm
    refine ⟨_, rfl, _, _, _, _, _, rfl, .own _, piece_ty T hS hp, ki_deed T u, _, rfl, ?_⟩
    cases u with
    | deed dd st =>
      refine iteT ?_
      refine ⟨_, rfl, _, _, rfl, rfl, rfl, some y, ?_⟩
      rw [hs]
      rfl
    | times n bd =>
      refine iteF ?_
      obtain ⟨a, C, dx, fs, q2, rfl, g1, c1, n1, k1, w1⟩ := piece_row T hp rfl
      obtain ⟨o1, o2, o3⟩ : 1 ≤ n ∧ n ≤ 9 ∧ VamacBase.okPieces bd = true := ok_piece hok hm
      obtain ⟨a', dx', q', ea, g1', w1'⟩ := hp
      cases ea
      rw [g1] at g1'
      cases g1'
      refine ⟨_, rfl, _, rfl, a, _, dx, _, _, rfl, hS _ _ g1, T.cl_LoopPiece, T.na_LoopPiece_rounds, lk_here, _, rfl, a, _, dx, _, _, rfl, hS _ _ g1, c1, n1, k1, G, q2, bd, rfl, ?_, hS, w1, hcu, o3, _, _, rfl, rfl, .inl ⟨by omega, by omega⟩, _, _, rfl, rfl, rfl, some (.ref a), ?_⟩
      · have := depth_piece hm
        have : bd.depth < (Piece.times n bd).depth := depth_body rfl
        omega
      · rw [hs, Int.natCast_add]
        show _ = [some (V.ref q), some (V.int (_ + ((n * Vamacb.lengthOf bd : Nat) : Int))), _]
        rw [Int.natCast_mul]
        rfl
    | toEnd bd => cases hcu
    | when f v bd => cases hcu
  · rintro σ H' ⟨rfl, v, rfl⟩
    refine ⟨_, rfl, ?_⟩
    have e : ((pieces p).map Piece.len).take ws.length = (pieces p).map Piece.len := by
      rw [a1.length]
      exact List.take_of_length_le (by rw [List.length_map]; exact Nat.le_refl _)
    rw [e, ← length_pieces]
    exact kQ
theorem ok_counttold (T : Txt K mg A) : ∀ d : Nat, Okf P w K mg base CX0 d A.f_count_told ["row"] (spCountTold A d)
  | 0 => Okf.none_ T.d_count_told fun _ _ _ _ ⟨_, _, _, _, z, _⟩ => absurd z (Nat.not_lt_zero _)
  | d + 1 => counttold_step T (ok_counttold T d)

/-! ### the deeds -/
/-- a new list of deeds is handed back -/
def NewDeeds (G H : Hp) (Q : VK) (ds : List Deed) : Prop := ∀ (G' H' : Hp) (r : Addr) (vs : List V), Ext G H G' H' none_ → H r = none → G' r = none → H' r = some (.lst vs) → All2 (DeedAt G') vs ds → Q (.ref r) H'
def spTell (A : Ad) (d : Nat) : Sp := fun vs H Q _ => ∃ (G : Hp) (q : Addr) (p : Prog) (i : Nat), vs = [.ref q, .int i] ∧ p.depth < d ∧ Same G H ∧ RowAt A G q p ∧ Vamacb.isCounted p = true ∧ VamacBase.okPieces p = true ∧ Vamacb.lengthOf p ≤ 60 ∧ NewDeeds G H Q (Vamacb.unrollFrom p i)
theorem tell_step {d k : Nat} (T : Txt K mg A) (hk : 2 ≤ k) (G_tell : Okf P w K mg base CX0 k A.f_tell ["row", "round_number"] (spTell A d)) : Okf P w K mg base CX0 (k + 1) A.f_tell ["row", "round_number"] (spTell A (d + 1)) := by
  have G_deed_at_round := ok_deed_at_round (P := P) (w := w) (base := base) T
  obtain ⟨fd, F, b⟩ := T.d_tell
  refine ⟨fd, F.ok sc_tell (fun vs H Q E h => ?_) (fun cdv AA outer s H vs Q E hr h => ?_), b, F.kp⟩
  · obtain ⟨G, q, p, i, rfl, _⟩ := h
    rfl
  obtain ⟨G, q, p, rn, rfl, hd, hS, hW, hc, hok, hlen, kQ⟩ := h
  refine ⟨_, (pss_cons (ps_set (i := 2) sc_tell.nd rfl (Or.inl rfl) (pe_lst pa_nil))
      (pss_cons (ps_for PassesOwn.never rfl (pi_list (pv 0)) (pg_name (i := 3) sc_tell.nd rfl (Or.inl rfl)) (pss_one (ps_if (pt_val (pe_callB call_isi (by rfl) T.z_isinstance (by decide +kernel) (pa_cons (pv 3) (pa_cons (pe_glob (v := V.ref A.c_DeedPiece) rfl T.g_DeedPiece rfl) pa_nil)))) (pss_one (ps_expr (pe_bm PySem.F.plainAttrs_list PySem.F.slot_list_append PySem.F.type_list_append mt_append (pv 2) (pa_cons (call_f G_deed_at_round (hr.mono (by omega)) rfl T.g_deed_at_round pass0 (pa_cons (pe_fld (pv 3) rfl) (pa_cons (pe_fld (pv 3) rfl) (pa_cons (pv 1) pa_nil)))) pa_nil)))) (pss_one (ps_for PassesOwn.never rfl (pi_range1 rfl T.z_range (pa_cons (pe_fld (pv 3) rfl) pa_nil)) (pg_name (i := 4) sc_tell.nd rfl (Or.inl rfl)) (pss_one (ps_expr (pe_bm PySem.F.plainAttrs_list PySem.F.slot_list_extend PySem.F.type_list_extend mt_extend (pv 2) (pa_cons (call_f G_tell (hr.mono (by omega)) rfl T.g_tell pass0 (pa_cons (pe_fld (pv 3) rfl) (pa_cons (pv 4) pa_nil))) pa_nil)))))))))
      (pss_one (ps_ret (pv 2))))), ?_⟩
  obtain ⟨ws, h1, a1⟩ := row_to hW
  refine ⟨(by show 0 ≤ sizeLine; decide), fun l hl => ?_⟩
  have gl : G l = none := hS.free hl
  have E1 : Ext G H G (upd H l (.lst [])) none_ := Ext.open_ hS hl
  have ql : q ≠ l := ne_of_none (hS _ _ h1) hl
  have tot : ((pieces p).flatMap (Piece.told rn)).length ≤ 60 := by
    rw [← told_pieces, unroll_length]
    exact hlen
  refine ⟨_, rfl, q, rfl, ⟨_, SqL.of (E1.sub _ _ h1)⟩, for_list (K := K) (a := q) (xs := ws) (fun i σ H' => ∃ (v v2 : Option V) (G' : Hp) (vs : List V), σ = [some (.ref q), some (.int rn), some (.ref l), v, v2] ∧ Ext G H G' H' none_ ∧ G' l = none ∧ H' l = some (.lst vs) ∧ All2 (DeedAt G') vs (((pieces p).take i).flatMap (Piece.told rn)))
    ⟨none, none, G, [], rfl, E1, gl, upd_same, by rw [List.take_zero]; exact .nil⟩ ?_ ?_ ?_⟩
  · rintro i σ H' _ ⟨v, v2, G', vs, rfl, X1, _⟩
    exact SqL.of (X1.sub _ _ (X1.mono _ _ h1))
  · rintro i y σ H' hi ⟨v, v2, G', vs, rfl, X1, g1, hl1, al1⟩
    obtain ⟨u, hu, hp0⟩ := a1.get hi
    have hp := hp0.mono X1.mono
    have hm : u ∈ pieces p := List.mem_of_getElem? hu
    have hcu := counted_piece hc hm
    have hok1 := ok_piece hok hm
    have fm := flatMap_take_succ (Piece.told rn) hu
    have pre := flatMap_take_le (Piece.told rn) (pieces p) i
    have hle := al1.length
    refine ⟨_, rfl, _, _, _, _, _, rfl, .own _, piece_ty T X1.sub hp, ki_deed T u, _, rfl, ?_⟩
    cases u with
    | deed dd st =>
      refine iteT ?_
      obtain ⟨a, dx, w0, rfl, f1, D1⟩ := hp
      have bs := value_le hok1.2
      refine ⟨_, rfl, .inl ⟨rfl, _, SqL.of hl1⟩, _, rfl, a, _, dx, _, _, rfl, X1.sub _ _ f1, T.cl_DeedPiece, T.na_DeedPiece_deed, lk_here, _, rfl, a, _, dx, _, _, rfl, X1.sub _ _ f1, T.cl_DeedPiece, T.na_DeedPiece_step, (lk_past (by decide +kernel)).trans lk_here, _, rfl, G', _, dd, st, rn, rfl, X1.sub, D1, ⟨by omega, by omega⟩, fun G5 H5 v5 x5 D5 => ?_⟩
      have g5 := x5.fresh _ _ hl1 g1
      refine ⟨l, _, _, rfl, rfl, x5.same _ _ hl1, small1000 (by omega), ?_⟩
      refine ⟨some (.ref a), v2, G5, vs ++ [v5], rfl, (X1.trans x5).put hl g5, g5, upd_same, ?_⟩
      rw [fm]
      exact (al1.deeds x5.mono).append (.one D5)
    | times n bd =>
      refine iteF ?_
      obtain ⟨o1, o2, o3⟩ : 1 ≤ n ∧ n ≤ 9 ∧ VamacBase.okPieces bd = true := hok1
      have hlu : n * Vamacb.lengthOf bd ≤ 60 := Nat.le_trans (len_le hm) hlen
      have hlb : Vamacb.lengthOf bd ≤ 60 := Nat.le_trans (Nat.le_mul_of_pos_left _ o1) hlu
      obtain ⟨a, dx, q2, rfl, f1, w1⟩ := hp
      refine ⟨_, rfl, a, _, dx, _, _, rfl, X1.sub _ _ f1, T.cl_LoopPiece, T.na_LoopPiece_rounds, lk_here, _, rfl, by omega, by omega, for_range (lo := 0) (n := n) (fun j σ H2 => ∃ (v2 : Option V) (G2 : Hp) (vs2 : List V), σ = [some (.ref q), some (.int rn), some (.ref l), some (.ref a), v2] ∧ Ext G H G2 H2 none_ ∧ Same G' G2 ∧ G2 l = none ∧ H2 l = some (.lst vs2) ∧ All2 (DeedAt G2) vs2 (((pieces p).take i).flatMap (Piece.told rn) ++ (List.range j).flatMap (Vamacb.unrollFrom bd)))
        ⟨v2, G', vs, rfl, X1, Same.refl _, g1, hl1, by rw [List.range_zero, List.flatMap_nil, List.append_nil]; exact al1⟩ ?_ ?_⟩
      · rintro j σ H2 hj ⟨v3, G2, vs2, rfl, X2, s2, g2, hl2, al2⟩
        have f2 := s2 _ _ f1
        have hle2 := al2.length
        rw [List.length_append] at hle2
        have hjl : ((List.range j).flatMap (Vamacb.unrollFrom bd)).length = j * Vamacb.lengthOf bd := by
          have z := unrollRounds_eq (Vamacb.unrollFrom bd) j 0
          simp only [Nat.zero_add] at z
          rw [← z]
          exact rounds_length _ _ (unroll_length bd) j 0
        have hjn : j * Vamacb.lengthOf bd ≤ n * Vamacb.lengthOf bd := Nat.mul_le_mul_right _ (Nat.le_of_lt hj)
        refine ⟨_, rfl, .inl ⟨rfl, _, SqL.of hl2⟩, _, rfl, a, _, dx, _, _, rfl, X2.sub _ _ f2, T.cl_LoopPiece, T.na_LoopPiece_row, (lk_past (by decide +kernel)).trans lk_here, _, rfl, G2, q2, bd, j, by rw [Int.zero_add]; rfl, ?_, X2.sub, w1.mono s2, hcu, o3, hlb, fun G5 H5 r5 vs5 x5 n5 g5 h5 a5 => ?_⟩
        · have := depth_piece hm
          have : bd.depth < (Piece.times n bd).depth := depth_body rfl
          omega
        · have g6 := x5.fresh _ _ hl2 g2
          have hle5 := a5.length
          rw [unroll_length] at hle5
          refine ⟨l, r5, _, _, rfl, rfl, x5.same _ _ hl2, h5, small (by omega), ?_⟩
          refine ⟨_, G5, vs2 ++ vs5, rfl, (X2.trans x5).put hl g6, s2.trans x5.mono, g6, upd_same, ?_⟩
          rw [range_flatMap_succ, ← List.append_assoc]
          exact (al2.deeds x5.mono).append a5
      · rintro σ H2 ⟨v3, G2, vs2, rfl, X2, s2, g2, hl2, al2⟩
        refine ⟨some (.ref a), v3, G2, vs2, rfl, X2, g2, hl2, ?_⟩
        rw [fm]
        show All2 (DeedAt G2) vs2 (_ ++ Vamacb.unrollRounds (Vamacb.unrollFrom bd) n 0)
        rw [unrollRounds_eq]
        simp only [Nat.zero_add]
        exact al2
    | toEnd bd => cases hcu
    | when f v bd => cases hcu
  · rintro σ H' ⟨v, v2, G', vs, rfl, X1, g1, hl1, al1⟩
    refine ⟨_, rfl, ?_⟩
    rw [a1.length, List.take_of_length_le (Nat.le_refl _), ← told_pieces] at al1
    exact kQ G' H' l vs X1 hl g1 hl1 al1
theorem ok_tell (T : Txt K mg A) : ∀ d : Nat, Okf P w K mg base CX0 (d + 2) A.f_tell ["row", "round_number"] (spTell A d)
  | 0 => Okf.none_ T.d_tell fun _ _ _ _ ⟨_, _, _, _, _, z, _⟩ => absurd z (Nat.not_lt_zero _)
  | d + 1 => tell_step T (by omega) (ok_tell T d)

/-! ### told by a list -/
def spToldBy (A : Ad) : Sp := fun vs H Q E => ∃ (G : Hp) (n : Addr) (ns : List Int), vs = [.ref n] ∧ Same G H ∧ G n = some (.lst (ns.map V.int)) ∧
  (whole VamacBase.readProg ns = none → ∀ G' H', Ext G H G' H' none_ → E (.ref A.c_NotWhole) none H') ∧
  ∀ p, whole VamacBase.readProg ns = some p →
    (Vamacb.isCounted p = false → ∀ G' H', Ext G H G' H' none_ → E (.ref A.c_NotOnlyRounds) none H') ∧
    (Vamacb.isCounted p = true → 60 < Vamacb.lengthOf p → ∀ G' H', Ext G H G' H' none_ → E (.ref A.c_TellsTooMuch) none H') ∧
    (Vamacb.isCounted p = true → Vamacb.lengthOf p ≤ 60 → NewDeeds G H Q (Vamacb.unroll p))
theorem ok_told_by (T : Txt K mg A) : Okf P w K mg base (L2.CX P w) 12 A.f_told_by ["numbers"] (spToldBy A) := by
  have G_whole_program := ok_whole_program (P := P) (w := w) (base := base) T
  have G_is_table_bound := ok_bound (P := P) (w := w) (base := base) T 4
  have G_count_told := ok_counttold (P := P) (w := w) (base := base) T 4
  have G_tell := ok_tell (P := P) (w := w) (base := base) T 4
  obtain ⟨fd, F, b⟩ := T.d_told_by
  refine ⟨fd, F.okX sc_told_by (fun vs H Q E h => ?_) (fun cdv AA outer s H vs Q E hr h => ?_), b, F.kp⟩
  · obtain ⟨G, n, ns, rfl, _⟩ := h
    rfl
  obtain ⟨G, n, ns, rfl, hS, hn, kN, kS⟩ := h
  refine ⟨_, (pss_cons (ps_set (i := 1) sc_told_by.nd rfl (Or.inl rfl) (call_f G_whole_program (hr.mono (by omega)) rfl T.g_whole_program (passes_call (takes_of rfl rfl rfl rfl) (fun _ _ _ _ h => h)) (pa_cons (pv 0) pa_nil)))
      (pss_cons (ps_if (pt_val (call_f G_is_table_bound (hr.mono (by omega)) rfl T.g_is_table_bound pass0 (pa_cons (pv 1) pa_nil))) (pss_one (ps_raise rfl (takes_of rfl rfl rfl rfl) (pmk_own0 PySem.F.excBase_Exception T.er_NotOnlyRounds.x T.er_NotOnlyRounds.g T.er_NotOnlyRounds.k (raises_own T.er_NotOnlyRounds.b T.er_NotOnlyRounds.t) (by exact rfl)))) pss_nil)
      (pss_cons (ps_if (pt_cmpR op_gt (call_f G_count_told (hr.mono (by omega)) rfl T.g_count_told pass0 (pa_cons (pv 1) pa_nil)) (pe_glob (v := V.int 60) rfl T.i_MOST_TOLD.choose_spec ⟨_, rfl⟩) (nomark _)) (pss_one (ps_raise rfl (takes_of rfl rfl rfl rfl) (pmk_own0 PySem.F.excBase_Exception T.er_TellsTooMuch.x T.er_TellsTooMuch.g T.er_TellsTooMuch.k (raises_own T.er_TellsTooMuch.b T.er_TellsTooMuch.t) (by exact rfl)))) pss_nil)
      (pss_one (ps_ret (call_f G_tell (hr.mono (by omega)) rfl T.g_tell pass0 (pa_cons (pv 1) (pa_cons pe_int pa_nil)))))))), ?_⟩
  refine ⟨_, rfl, G, n, ns, rfl, hS, hn, kN, fun p hp hok hd hz G1 H1 q x1 W1 => ?_⟩
  obtain ⟨k1, k2, k3⟩ := kS p hp
  refine ⟨_, rfl, G1, q, p, rfl, hd, x1.sub, W1, _, rfl, ?_⟩
  cases c : Vamacb.isCounted p with
  | false => exact iteT (k1 c G1 H1 x1)
  | true =>
    refine iteF ?_
    refine ⟨_, rfl, G1, q, p, rfl, hd, x1.sub, W1, c, hok, _, _, rfl, rfl, _, rfl, ?_⟩
    refine if_dec (fun c2 => ?_) (fun c2 => ?_)
    · exact k2 c (by omega) G1 H1 x1
    · exact ⟨_, rfl, G1, q, p, 0, rfl, hd, x1.sub, W1, c, hok, by omega, fun G5 H5 r5 vs5 x5 n5 g5 h5 a5 => k3 c (by omega) G5 H5 r5 vs5 (x1.trans x5) (x1.free n5) g5 h5 a5⟩
end
end Lf

set_option Elab.async false
set_option linter.all false
set_option maxRecDepth 100000
set_option maxHeartbeats 4000000
/-! # A row as numbers -/
namespace Lf
open PySem PySem.Spec PyProof.Rows L2
open VamacBase (Deed Prog readDeed readTimes readNat readListed readValue readField whole)

theorem flat_deed_le (d : Deed) : (VamacBase.flatDeed d).length ≤ 3 := by cases d <;> simp [VamacBase.flatDeed]
theorem flatPieces_le : ∀ p : Prog, (VamacBase.flatPieces p).length ≤ 5 * p.size
  | .done => Nat.le_refl _
  | .deed d s r => by
    have h1 := flat_deed_le d
    have h2 := flatPieces_le r
    have h3 : (if VamacBase.hasNumber d = true then [s] else []).length ≤ 1 := by split <;> simp
    simp only [VamacBase.flatPieces, Prog.size, List.length_cons, List.length_append] at *
    show _ ≤ 5 * (r.size + 1)
    omega
  | .times n b r => by
    have h1 := flatPieces_le b
    have h2 := flatPieces_le r
    simp only [VamacBase.flatPieces, List.length_cons, List.length_append] at *
    show _ ≤ 5 * (b.size + r.size + 1)
    omega
  | .toEnd b r => by
    have h1 := flatPieces_le b
    have h2 := flatPieces_le r
    simp only [VamacBase.flatPieces, List.length_cons, List.length_append] at *
    show _ ≤ 5 * (b.size + r.size + 1)
    omega
  | .when f v b r => by
    have h1 := flatPieces_le b
    have h2 := flatPieces_le r
    simp only [VamacBase.flatPieces, List.length_cons, List.length_append] at *
    show _ ≤ 5 * (b.size + r.size + 1)
    omega
theorem flatProg_le (p : Prog) : (VamacBase.flatProg p).length ≤ 5 * p.size + 1 := Nat.succ_le_succ (flatPieces_le p)
theorem inner_size {p : Prog} {u : Piece} (m : u ∈ pieces p) : u.inner < p.size := by
  rw [size_pieces]
  have h1 := sum_le (List.mem_map.mpr ⟨u, m, rfl⟩ : u.inner ∈ (pieces p).map Piece.inner)
  have h2 : 0 < (pieces p).length := List.length_pos_of_mem m
  omega

section
variable {P : Program} {w : World} {K : PySem.W.Frag} {mg : Str → Option Value} {base : Heap} {A : Ad}
def spNumbers (A : Ad) (d : Nat) : Sp := fun vs H Q _ => ∃ (G : Hp) (q : Addr) (p : Prog), vs = [.ref q] ∧ p.depth < d ∧ Same G H ∧ RowAt A G q p ∧ Vamacb.isCounted p = true ∧ p.size ≤ 60 ∧
  ∀ (H' : Hp) (r : Addr), Ext G H G H' none_ → H r = none → H' r = some (.lst ((VamacBase.flatProg p).map V.int)) → Q (.ref r) H'
theorem numbers_step {d k : Nat} (T : Txt K mg A) (hk : 1 ≤ k) (G_row_as_numbers : Okf P w K mg base CX0 k A.f_row_as_numbers ["row"] (spNumbers A d)) : Okf P w K mg base CX0 (k + 1) A.f_row_as_numbers ["row"] (spNumbers A (d + 1)) := by
  have G_has_number := ok_has_number (P := P) (w := w) (base := base) T
  obtain ⟨fd, F, b⟩ := T.d_row_as_numbers
  refine ⟨fd, F.ok sc_row_as_numbers (fun vs H Q E h => ?_) (fun cdv AA outer s H vs Q E hr h => ?_), b, F.kp⟩
  · obtain ⟨G, q, p, rfl, _⟩ := h
    rfl
  obtain ⟨G, q, p, rfl, hd, hS, hW, hc, hsz, kQ⟩ := h
  refine ⟨_, (pss_cons (ps_set (i := 1) sc_row_as_numbers.nd rfl (Or.inl rfl) (pe_lst (pa_cons (pe_callB call_len_seq (by rfl) T.z_len PySem.boot_len (pa_cons (pv 0) pa_nil)) pa_nil)))
      (pss_cons (ps_for PassesOwn.never rfl (pi_list (pv 0)) (pg_name (i := 2) sc_row_as_numbers.nd rfl (Or.inl rfl)) (pss_one (ps_if (pt_val (pe_callB call_isi (by rfl) T.z_isinstance (by decide +kernel) (pa_cons (pv 2) (pa_cons (pe_glob (v := V.ref A.c_DeedPiece) rfl T.g_DeedPiece rfl) pa_nil)))) (pss_cons (ps_expr (pe_bm PySem.F.plainAttrs_list PySem.F.slot_list_append PySem.F.type_list_append mt_append (pv 1) (pa_cons (pe_glob (v := V.int 0) rfl T.i_DEED.choose_spec ⟨_, rfl⟩) pa_nil)))
      (pss_cons (ps_expr (pe_bm PySem.F.plainAttrs_list PySem.F.slot_list_extend PySem.F.type_list_extend mt_extendT (pv 1) (pa_cons (pe_fld (pv 2) rfl) pa_nil)))
      (pss_one (ps_if (pt_val (call_f G_has_number (hr.mono (by omega)) rfl T.g_has_number pass0 (pa_cons (pe_fld (pv 2) rfl) pa_nil))) (pss_one (ps_expr (pe_bm PySem.F.plainAttrs_list PySem.F.slot_list_append PySem.F.type_list_append mt_append (pv 1) (pa_cons (pe_fld (pv 2) rfl) pa_nil)))) pss_nil)))) (pss_cons (ps_expr (pe_bm PySem.F.plainAttrs_list PySem.F.slot_list_extend PySem.F.type_list_extend mt_extend (pv 1) (pa_cons (pe_lst (pa_cons (pe_glob (v := V.int 1) rfl T.i_LOOP.choose_spec ⟨_, rfl⟩) (pa_cons (pe_fld (pv 2) rfl) pa_nil))) pa_nil)))
      (pss_one (ps_expr (pe_bm PySem.F.plainAttrs_list PySem.F.slot_list_extend PySem.F.type_list_extend mt_extend (pv 1) (pa_cons (call_f G_row_as_numbers (hr.mono (by omega)) rfl T.g_row_as_numbers pass0 (pa_cons (pe_fld (pv 2) rfl) pa_nil)) pa_nil))))))))
      (pss_one (ps_ret (pv 1))))), ?_⟩
  obtain ⟨ws, h1, a1⟩ := row_to hW
  refine ⟨_, rfl, q, _, rfl, .inl (SqL.of (hS _ _ h1)), (by show 1 ≤ sizeLine; decide), fun l hl => ?_⟩
  have gl : G l = none := hS.free hl
  have E1 : Ext G H G (upd H l (.lst [.int (ws.length : Int)])) none_ := Ext.open_ hS hl
  have tot : ((pieces p).flatMap Piece.flat).length ≤ 300 := by
    rw [← flat_pieces]
    have := flatPieces_le p
    omega
  refine ⟨_, rfl, q, rfl, ⟨_, SqL.of (E1.sub _ _ h1)⟩, for_list (K := K) (a := q) (xs := ws) (fun i σ H' => ∃ (v : Option V), σ = [some (.ref q), some (.ref l), v] ∧ Ext G H G H' none_ ∧ H' l = some (.lst ((((pieces p).length : Int) :: ((pieces p).take i).flatMap Piece.flat).map V.int)))
    ⟨none, rfl, E1, by rw [upd_same, List.take_zero, a1.length]; rfl⟩ ?_ ?_ ?_⟩
  · rintro i σ H' _ ⟨v, rfl, X1, _⟩
    exact SqL.of (X1.sub _ _ h1)
  · rintro i y σ H' hi ⟨v, rfl, X1, hl1⟩
    obtain ⟨u, hu, hp⟩ := a1.get hi
    have hm : u ∈ pieces p := List.mem_of_getElem? hu
    have hcu := counted_piece hc hm
    have fm := flatMap_take_succ Piece.flat hu
    have pre := flatMap_take_le Piece.flat (pieces p) i
    have hlen : ((((pieces p).length : Int) :: ((pieces p).take i).flatMap Piece.flat).map V.int).length ≤ 301 := by
      rw [List.length_map, List.length_cons]
      omega
    rw [fm]
    generalize hpr : (((pieces p).length : Int) :: ((pieces p).take i).flatMap Piece.flat) = pr at hl1 hlen
    have hpr' : ∀ z : List Int, (((pieces p).length : Int) :: (((pieces p).take i).flatMap Piece.flat ++ z)) = pr ++ z := fun z => by
      rw [← hpr]
      rfl
    rw [hpr']
    rw [List.length_map] at hlen
    refine ⟨_, rfl, _, _, _, _, _, rfl, .own _, piece_ty T X1.sub hp, ki_deed T u, _, rfl, ?_⟩
    cases u with
    | deed dd st =>
      refine iteT ?_
      obtain ⟨a, dx, w0, rfl, f1, t1, rfl, f2⟩ := hp
      have al : a ≠ l := ne_of (X1.sub _ _ f1) hl1 (by intro z; cases z)
      have tl : t1 ≠ l := ne_of (X1.sub _ _ f2) hl1 (by intro z; cases z)
      have hdl := flat_deed_le dd
      -- numbers.append(DEED)
      refine ⟨_, rfl, .inl ⟨rfl, _, SqL.of hl1⟩, l, _, _, rfl, rfl, hl1, small1000 (by rw [List.length_map]; omega), ?_⟩
      have X2 := X1.put (o := .lst (pr.map V.int ++ [.int 0])) hl gl
      -- numbers.extend(piece.deed)
      refine ⟨_, rfl, .inl ⟨rfl, _, SqL.of upd_same⟩, _, rfl, a, _, dx, _, _, rfl, X2.sub _ _ f1, T.cl_DeedPiece, T.na_DeedPiece_deed, lk_here, l, t1, _, _, rfl, rfl, upd_same, SqT.of (X2.sub _ _ f2), small (by rw [List.length_append, List.length_map]; unfold deedV; rw [List.length_map]; simp only [List.length_singleton]; omega), ?_⟩
      rw [upd_upd]
      have X3 := X1.put (o := .lst ((pr.map V.int ++ [.int 0]) ++ deedV dd)) hl gl
      -- if has_number(piece.deed)
      refine ⟨_, rfl, a, _, dx, _, _, rfl, X3.sub _ _ f1, T.cl_DeedPiece, T.na_DeedPiece_deed, lk_here, G, _, dd, rfl, X3.sub, ⟨t1, rfl, f2⟩, _, rfl, ?_⟩
      have e3 : (pr.map V.int ++ [.int 0]) ++ deedV dd = (pr ++ (0 :: VamacBase.flatDeed dd)).map V.int := by
        rw [List.map_append, List.append_assoc]
        rfl
      cases c : VamacBase.hasNumber dd with
      | true =>
        refine iteT ?_
        refine ⟨_, rfl, .inl ⟨rfl, _, SqL.of upd_same⟩, _, rfl, a, _, dx, _, _, rfl, X3.sub _ _ f1, T.cl_DeedPiece, T.na_DeedPiece_step, (lk_past (by decide +kernel)).trans lk_here, l, _, _, rfl, rfl, upd_same, small1000 (by rw [e3, List.length_map, List.length_append, List.length_cons]; omega), ?_⟩
        refine ⟨some (.ref a), rfl, ?_, ?_⟩
        · rw [upd_upd]
          exact X1.put hl gl
        · rw [upd_same, e3]
          show _ = some (HO.lst ((pr ++ (0 :: (VamacBase.flatDeed dd ++ (if VamacBase.hasNumber dd = true then [st] else [])))).map V.int))
          rw [c, if_pos rfl]
          simp [List.map_append]
      | false =>
        refine iteF ?_
        refine ⟨some (.ref a), rfl, X3, ?_⟩
        rw [upd_same, e3]
        show _ = some (HO.lst ((pr ++ (0 :: (VamacBase.flatDeed dd ++ (if VamacBase.hasNumber dd = true then [st] else [])))).map V.int))
        rw [c, if_neg Bool.false_ne_true, List.append_nil]
    | times n bd =>
      refine iteF ?_
      obtain ⟨a, dx, q2, rfl, f1, w1⟩ := hp
      have al : a ≠ l := ne_of (X1.sub _ _ f1) hl1 (by intro z; cases z)
      have hin : bd.size < p.size := inner_size hm
      have hfl := flatProg_le bd
      refine ⟨_, rfl, .inl ⟨rfl, _, SqL.of hl1⟩, _, rfl, a, _, dx, _, _, rfl, X1.sub _ _ f1, T.cl_LoopPiece, T.na_LoopPiece_rounds, lk_here, (by show 2 ≤ sizeLine; decide), fun t ht => ?_⟩
      have lt : l ≠ t := ne_of_none hl1 ht
      refine ⟨l, t, _, _, rfl, rfl, by rw [upd_ne lt]; exact hl1, upd_same, small (by rw [List.length_map]; simp only [List.length_cons, List.length_nil]; omega), ?_⟩
      have X2 : Ext G H G (upd (upd H' t (.lst [.int 1, .int n])) l (.lst (pr.map V.int ++ [.int 1, .int n]))) none_ := (X1.trans (Ext.open_ X1.sub ht)).put hl gl
      refine ⟨_, rfl, .inl ⟨rfl, _, SqL.of upd_same⟩, _, rfl, a, _, dx, _, _, rfl, X2.sub _ _ f1, T.cl_LoopPiece, T.na_LoopPiece_row, (lk_past (by decide +kernel)).trans lk_here, G, q2, bd, rfl, ?_, X2.sub, w1, hcu, by omega, fun H5 r5 x5 n5 h5 => ?_⟩
      · have := depth_piece hm
        have : bd.depth < (Piece.times n bd).depth := depth_body rfl
        omega
      · refine ⟨l, r5, _, _, rfl, rfl, x5.same _ _ upd_same, h5, small (by rw [List.length_append, List.length_map, List.length_map]; simp only [List.length_cons, List.length_nil]; omega), ?_⟩
        refine ⟨some (.ref a), rfl, (X2.trans x5).put hl gl, ?_⟩
        rw [upd_same]
        show _ = some (HO.lst ((pr ++ (1 :: (n : Int) :: VamacBase.flatProg bd)).map V.int))
        simp [List.map_append]
    | toEnd bd => cases hcu
    | when f v bd => cases hcu
  · rintro σ H' ⟨v, rfl, X1, hl1⟩
    refine ⟨_, rfl, kQ H' l X1 hl ?_⟩
    rw [a1.length, List.take_of_length_le (Nat.le_refl _), ← flat_prog] at hl1
    exact hl1
theorem ok_numbers (T : Txt K mg A) : ∀ d : Nat, Okf P w K mg base CX0 (d + 1) A.f_row_as_numbers ["row"] (spNumbers A d)
  | 0 => Okf.none_ T.d_row_as_numbers fun _ _ _ _ ⟨_, _, _, _, z, _⟩ => absurd z (Nat.not_lt_zero _)
  | d + 1 => numbers_step T (by omega) (ok_numbers T d)
end
end Lf

set_option Elab.async false
set_option linter.all false
set_option maxRecDepth 100000
set_option maxHeartbeats 4000000
/-! # Deeds compared; the first pieces -/
namespace Lf
open PySem PySem.Spec PyProof.Rows L2
open VamacBase (Deed Prog)

/-! ### deeds as data -/
def dataD (d : Deed) : PyData := .tuple ((VamacBase.flatDeed d).map .int)
def dataDs (ds : List Deed) : PyData := .list (ds.map dataD)
theorem eqv_ints : ∀ a b : List Int, PyData.eqvAll (a.map .int) (b.map .int) = decide (a = b)
  | [], [] => rfl
  | [], _ :: _ => rfl
  | _ :: _, [] => rfl
  | x :: a, y :: b => by
    rw [List.map_cons, List.map_cons, PyData.eqvAll, eqv_ints a b]
    show ((x == y) && decide (a = b)) = decide (x :: a = y :: b)
    by_cases h1 : x = y
    · subst h1
      by_cases h2 : a = b
      · subst h2
        simp
      · simp [h2]
    · simp [h1]
theorem flatDeed_inj {a b : Deed} (h : VamacBase.flatDeed a = VamacBase.flatDeed b) : a = b := by
  cases a <;> cases b <;> simp [VamacBase.flatDeed, VamacBase.int] at h <;> try rfl
  all_goals (simp only [VamacBase.Deed.write.injEq, VamacBase.Deed.add.injEq, VamacBase.Deed.find.injEq, VamacBase.Deed.copy.injEq, VamacBase.Deed.paste.injEq]; omega)
theorem eqv_deed (a b : Deed) : PyData.eqv (dataD a) (dataD b) = decide (a = b) := by
  show PyData.eqvAll _ _ = _
  rw [eqv_ints]
  by_cases h : a = b
  · subst h
    simp
  · rw [decide_eq_false h, decide_eq_false fun z => h (flatDeed_inj z)]
theorem eqv_deeds_all : ∀ a b : List Deed, PyData.eqvAll (a.map dataD) (b.map dataD) = decide (a = b)
  | [], [] => rfl
  | [], _ :: _ => rfl
  | _ :: _, [] => rfl
  | x :: a, y :: b => by
    rw [List.map_cons, List.map_cons, PyData.eqvAll, eqv_deed, eqv_deeds_all a b]
    by_cases h1 : x = y
    · subst h1
      by_cases h2 : a = b
      · subst h2
        simp
      · simp [h2]
    · simp [h1]
theorem eqv_deeds (a b : List Deed) : PyData.eqv (dataDs a) (dataDs b) = decide (a = b) := eqv_deeds_all a b
theorem lay_ints : ∀ a : List Int, PyData.canLayAll0 (a.map .int) = true ∧ PyData.depthAll (a.map .int) = 0
  | [] => ⟨rfl, rfl⟩
  | x :: a => by
    obtain ⟨h1, h2⟩ := lay_ints a
    refine ⟨?_, ?_⟩
    · rw [List.map_cons, PyData.canLayAll0, h1]
      rfl
    · rw [List.map_cons, PyData.depthAll, h2]
      rfl
theorem lay_deed (d : Deed) : (dataD d).canLay0 = true ∧ (dataD d).depth = 1 := by
  obtain ⟨h1, h2⟩ := lay_ints (VamacBase.flatDeed d)
  refine ⟨h1, ?_⟩
  show PyData.depthAll _ + 1 = 1
  rw [h2]
theorem lay_deeds : ∀ a : List Deed, PyData.canLayAll0 (a.map dataD) = true ∧ PyData.depthAll (a.map dataD) ≤ 1
  | [] => ⟨rfl, Nat.zero_le _⟩
  | x :: a => by
    obtain ⟨h1, h2⟩ := lay_deeds a
    obtain ⟨k1, k2⟩ := lay_deed x
    refine ⟨?_, ?_⟩
    · rw [List.map_cons, PyData.canLayAll0, h1, k1]
      rfl
    · rw [List.map_cons, PyData.depthAll, k2]
      exact Nat.max_le.mpr ⟨Nat.le_refl _, h2⟩
theorem shaped_deed (d : Deed) : SeqAt.shaped (dataD d) = true := by
  obtain ⟨h1, h2⟩ := lay_deed d
  show ((dataD d).canLay0 && decide ((dataD d).depth ≤ 64)) = true
  rw [h1, h2]
  rfl
theorem shaped_deeds (a : List Deed) : SeqAt.shaped (dataDs a) = true := by
  obtain ⟨h1, h2⟩ := lay_deeds a
  show ((dataDs a).canLay0 && decide (PyData.depthAll (a.map dataD) + 1 ≤ 64)) = true
  rw [show (dataDs a).canLay0 = true from h1, decide_eq_true (by omega)]
  rfl
section
variable {K : PySem.W.Frag} {G H : Hp}
theorem dp_ints : ∀ a : List Int, DpAll K H (a.map V.int) (a.map .int)
  | [] => .nil
  | x :: a => .cons (.int x) (dp_ints a)
theorem dp_deed (s : Same G H) {v : V} {d : Deed} (h : DeedAt G v d) : Dp K H v (dataD d) := by
  obtain ⟨p, rfl, h⟩ := h
  exact .tup (SqT.of (s _ _ h)) (dp_ints _)
theorem dp_deeds_all (s : Same G H) : ∀ {vs : List V} {ds : List Deed}, All2 (DeedAt G) vs ds → DpAll K H vs (ds.map dataD)
  | _, _, .nil => .nil
  | _, _, .cons h t => .cons (dp_deed s h) (dp_deeds_all s t)
theorem dp_deeds (s : Same G H) {p : Addr} {vs : List V} {ds : List Deed} (h : H p = some (.lst vs)) (a : All2 (DeedAt G) vs ds) : Dp K H (.ref p) (dataDs ds) := .lst (SqL.of h) (dp_deeds_all s a)
end
/-- a slice between two places of a list -/
theorem cut_nat (xs : List V) {i j : Int} {a w : Nat} (hi : i = a) (hj : j = (a + w : Nat)) (h : a + w ≤ xs.length) : cutV xs (some i) (some j) = (xs.drop a).take w := by
  subst hi hj
  unfold cutV
  rw [HT.sIx_nat, HT.sIx_nat, Nat.min_eq_left (by omega), Nat.min_eq_left (by omega)]
  congr 1
  omega

/-! ### the objects of foldings -/
def stF (l : Addr) (st len rds deep : Nat) : List (Str × V) := [("deeds", .ref l), ("start", .int st), ("length", .int len), ("rounds", .int rds), ("deep", .int deep)]
def StretchAt (A : Ad) (G : Hp) (sa : Addr) (ds : List Deed) (st len rds deep : Nat) : Prop := ∃ (dx l : Addr), G sa = some (.ins A.c_Stretch dx (stF l st len rds deep)) ∧ DeedsAt G l ds
theorem StretchAt.mono {A : Ad} {G G' : Hp} (s : Same G G') {sa : Addr} {ds : List Deed} {st len rds deep : Nat} : StretchAt A G sa ds st len rds deep → StretchAt A G' sa ds st len rds deep := fun ⟨dx, l, h1, h2⟩ => ⟨dx, l, s _ _ h1, h2.mono s⟩
/-- a stretch that lies within its deeds -/
structure Fit (ds : List Deed) (st len rds : Nat) : Prop where
  few : ds.length ≤ 14
  one : 1 ≤ rds
  nine : rds ≤ 9
  fit : st + rds * len ≤ ds.length
theorem Fit.len {ds : List Deed} {st len rds : Nat} (h : Fit ds st len rds) : st + len ≤ 14 := by
  have h1 := h.fit
  have h2 : 1 * len ≤ rds * len := Nat.mul_le_mul_right _ h.one
  have h3 := h.few
  omega
section
variable {l : Addr} {st len rds deep : Nat}
theorem st_deeds : (stF l st len rds deep).lookup ("deeds" : Str) = some (.ref l) := lk_here
theorem st_start : (stF l st len rds deep).lookup ("start" : Str) = some (.int st) := (lk_past (by decide +kernel)).trans lk_here
theorem st_length : (stF l st len rds deep).lookup ("length" : Str) = some (.int len) := (lk_past (by decide +kernel)).trans ((lk_past (by decide +kernel)).trans lk_here)
theorem st_rounds : (stF l st len rds deep).lookup ("rounds" : Str) = some (.int rds) := (lk_past (by decide +kernel)).trans ((lk_past (by decide +kernel)).trans ((lk_past (by decide +kernel)).trans lk_here))
theorem st_deep : (stF l st len rds deep).lookup ("deep" : Str) = some (.int deep) := (lk_past (by decide +kernel)).trans ((lk_past (by decide +kernel)).trans ((lk_past (by decide +kernel)).trans ((lk_past (by decide +kernel)).trans lk_here)))
end
def foF (c : Nat) (q : Addr) (s w : Nat) : List (Str × V) := [("ways", .int c), ("row", .ref q), ("pieces", .int s), ("width", .int w)]
section
variable {c s w : Nat} {q : Addr}
theorem fo_ways : (foF c q s w).lookup ("ways" : Str) = some (.int c) := lk_here
theorem fo_row : (foF c q s w).lookup ("row" : Str) = some (.ref q) := (lk_past (by decide +kernel)).trans lk_here
theorem fo_pieces : (foF c q s w).lookup ("pieces" : Str) = some (.int s) := (lk_past (by decide +kernel)).trans ((lk_past (by decide +kernel)).trans lk_here)
theorem fo_width : (foF c q s w).lookup ("width" : Str) = some (.int w) := (lk_past (by decide +kernel)).trans ((lk_past (by decide +kernel)).trans ((lk_past (by decide +kernel)).trans lk_here))
end
/-- what was found of some deeds: how many, the least row (none: an empty one), its pieces, how many deeds -/
def FoldedAt (A : Ad) (G : Hp) (v : V) (f : Vamacb.Folded) (w : Nat) : Prop := ∃ (p dx q : Addr), v = .ref p ∧ G p = some (.ins A.c_Folded dx (foF f.count q (f.best.getD .done).size w)) ∧ RowAt A G q (f.best.getD .done)
theorem FoldedAt.mono {A : Ad} {G G' : Hp} (s : Same G G') {v : V} {f : Vamacb.Folded} {w : Nat} : FoldedAt A G v f w → FoldedAt A G' v f w := fun ⟨p, dx, q, e, h1, h2⟩ => ⟨p, dx, q, e, s _ _ h1, h2.mono s⟩
/-- a first piece as such a thing -/
def First.folded (x : First) : Vamacb.Folded := ⟨x.ways, some (x.piece.cons .done)⟩
def FirstAt (A : Ad) (G : Hp) (v : V) (x : First) : Prop := FoldedAt A G v x.folded x.width
def FirstsAt (A : Ad) (G : Hp) (r : Addr) (fs : List First) : Prop := ∃ vs, G r = some (.lst vs) ∧ All2 (FirstAt A G) vs fs
theorem All2.firsts {A : Ad} {G G' : Hp} {vs : List V} {fs : List First} (s : Same G G') (h : All2 (FirstAt A G) vs fs) : All2 (FirstAt A G') vs fs := h.imp fun _ _ => FoldedAt.mono s
theorem size_one (u : Piece) : (u.cons .done).size = u.inner + 1 := by cases u <;> rfl

section
variable {P : Program} {w : World} {K : PySem.W.Frag} {mg : Str → Option Value} {base : Heap} {A : Ad}
theorem ok_Stretch_init (T : Txt K mg A) : Okf P w K mg base CX0 1 A.f_Stretch_init ["self", "deeds", "start", "length", "rounds", "deep"] (spInit A.c_Stretch ["deeds", "start", "length", "rounds", "deep"]) := by
  obtain ⟨fd, F, b⟩ := T.d_Stretch_init
  refine ⟨fd, F.ok sc_Stretch_init (fun vs H Q E h => ?_) (fun cdv AA outer s H vs Q E hr h => ?_), b, F.kp⟩
  · obtain ⟨p, dx, ws, rfl, hl, _⟩ := h
    exact congrArg (· + 1) hl
  obtain ⟨p, dx, ws, rfl, hl, hp, q⟩ := h
  match ws, hl with
  | [v1, v2, v3, v4, v5], _ =>
  refine ⟨_, (pss_cons (ps_fld (pv 0) (pv 1) rfl)
      (pss_cons (ps_fld (pv 0) (pv 2) rfl)
      (pss_cons (ps_fld (pv 0) (pv 3) rfl)
      (pss_cons (ps_fld (pv 0) (pv 4) rfl)
      (pss_one (ps_fld (pv 0) (pv 5) rfl)))))), ?_⟩
  refine ⟨_, rfl, _, rfl, p, _, dx, _, rfl, hp, T.cl_Stretch, T.na_Stretch_deeds, (by show 0 < 1000; decide), ?_⟩
  refine ⟨_, rfl, _, rfl, p, _, dx, _, rfl, upd_same, T.cl_Stretch, T.na_Stretch_start, (by show 1 < 1000; decide), ?_⟩
  refine ⟨_, rfl, _, rfl, p, _, dx, _, rfl, upd_same, T.cl_Stretch, T.na_Stretch_length, (by show 2 < 1000; decide), ?_⟩
  refine ⟨_, rfl, _, rfl, p, _, dx, _, rfl, upd_same, T.cl_Stretch, T.na_Stretch_rounds, (by show 3 < 1000; decide), ?_⟩
  refine ⟨_, rfl, _, rfl, p, _, dx, _, rfl, upd_same, T.cl_Stretch, T.na_Stretch_deep, (by show 4 < 1000; decide), ?_⟩
  rw [upd_upd, upd_upd, upd_upd, upd_upd]
  exact q
theorem ok_Folded_init (T : Txt K mg A) : Okf P w K mg base CX0 1 A.f_Folded_init ["self", "ways", "row", "pieces", "width"] (spInit A.c_Folded ["ways", "row", "pieces", "width"]) := by
  obtain ⟨fd, F, b⟩ := T.d_Folded_init
  refine ⟨fd, F.ok sc_Folded_init (fun vs H Q E h => ?_) (fun cdv AA outer s H vs Q E hr h => ?_), b, F.kp⟩
  · obtain ⟨p, dx, ws, rfl, hl, _⟩ := h
    exact congrArg (· + 1) hl
  obtain ⟨p, dx, ws, rfl, hl, hp, q⟩ := h
  match ws, hl with
  | [v1, v2, v3, v4], _ =>
  refine ⟨_, (pss_cons (ps_fld (pv 0) (pv 1) rfl)
      (pss_cons (ps_fld (pv 0) (pv 2) rfl)
      (pss_cons (ps_fld (pv 0) (pv 3) rfl)
      (pss_one (ps_fld (pv 0) (pv 4) rfl))))), ?_⟩
  refine ⟨_, rfl, _, rfl, p, _, dx, _, rfl, hp, T.cl_Folded, T.na_Folded_ways, (by show 0 < 1000; decide), ?_⟩
  refine ⟨_, rfl, _, rfl, p, _, dx, _, rfl, upd_same, T.cl_Folded, T.na_Folded_row, (by show 1 < 1000; decide), ?_⟩
  refine ⟨_, rfl, _, rfl, p, _, dx, _, rfl, upd_same, T.cl_Folded, T.na_Folded_pieces, (by show 2 < 1000; decide), ?_⟩
  refine ⟨_, rfl, _, rfl, p, _, dx, _, rfl, upd_same, T.cl_Folded, T.na_Folded_width, (by show 3 < 1000; decide), ?_⟩
  rw [upd_upd, upd_upd, upd_upd]
  exact q

/-- what a class's call asks, by the heap behind it -/
theorem made_of {H : Hp} {C x dx : Addr} {fields : List Str} {ws : List V} {R : VK} {E : XK} (hl : ws.length = fields.length) (h : R .non (mkH H x dx C (fields.zip ws))) :
    spInit C fields (.ref x :: (ws ++ [])) (upd (upd H dx (.own x)) x (.ins C dx [])) R E := by
  rw [List.append_nil]
  refine ⟨x, dx, ws, rfl, hl, upd_same, ?_⟩
  rw [upd_upd]
  exact h
/-! ### the same in each round -/
def spSame (A : Ad) : Sp := fun vs H Q _ => ∃ (G : Hp) (sa : Addr) (pl wi : Int) (ds : List Deed) (st len rds deep pp ww : Nat), vs = [.ref sa, .int pl, .int wi] ∧ pl = (pp : Nat) ∧ wi = (ww : Nat) ∧ Same G H ∧ StretchAt A G sa ds st len rds deep ∧ Fit ds st len rds ∧ st ≤ pp ∧ pp + ww ≤ st + len ∧
  ∀ H', Ext G H G H' none_ → (sameIn ds pp len rds ww → Q (.bl true) H') ∧ (¬ sameIn ds pp len rds ww → Q (.bl false) H')
theorem ok_is_same (T : Txt K mg A) : Okf P w K mg base CX0 1 A.f_is_same_each_round ["stretch", "place", "width"] (spSame A) := by
  obtain ⟨fd, F, b⟩ := T.d_is_same_each_round
  refine ⟨fd, F.ok sc_is_same_each_round (fun vs H Q E h => ?_) (fun cdv AA outer s H vs Q E hr h => ?_), b, F.kp⟩
  · obtain ⟨G, sa, pl, wi, ds, st, len, rds, deep, pp, ww, rfl, _⟩ := h
    rfl
  obtain ⟨G, sa, pl, wi, ds, st, len, rds, deep, pp, ww, rfl, hpl, hwi, hS, ⟨dx, l, h1, vs, h2, a2⟩, hF, hst, hww, kQ⟩ := h
  refine ⟨_, (pss_cons (ps_set (i := 3) sc_is_same_each_round.nd rfl (Or.inl rfl) (pe_slice sl_list (pe_fld (pv 0) rfl) (po_some (pv 1)) (po_some (pe_op op_add (pv 1) (pv 2)))))
      (pss_cons (ps_for PassesOwn.never rfl (pi_range2 rfl T.z_range (pa_cons pe_int (pa_cons (pe_fld (pv 0) rfl) pa_nil))) (pg_name (i := 4) sc_is_same_each_round.nd rfl (Or.inl rfl)) (pss_cons (ps_set (i := 5) sc_is_same_each_round.nd rfl (Or.inl rfl) (pe_op op_add (pv 1) (pe_op op_mul (pv 4) (pe_fld (pv 0) rfl))))
      (pss_one (ps_if (pt_cmpR (op_neD hr.units) (pe_slice sl_list (pe_fld (pv 0) rfl) (po_some (pv 5)) (po_some (pe_op op_add (pv 5) (pv 2)))) (pv 3) (nomark _)) (pss_one (ps_ret pe_bl)) pss_nil))))
      (pss_one (ps_ret pe_bl)))), ?_⟩
  have hlen := a2.length
  have hfit := hF.fit
  have hfew := hF.few
  have hnine := hF.nine
  have in_ : ∀ j, j < rds → pp + j * len + ww ≤ vs.length := fun j hj => by
    have q : (j + 1) * len ≤ rds * len := Nat.mul_le_mul_right _ hj
    rw [Nat.succ_mul] at q
    omega
  have in0 : pp + ww ≤ vs.length := by
    have := in_ 0 hF.one
    omega
  -- deeds = stretch.deeds[place:place + width]
  refine ⟨_, rfl, sa, _, dx, _, _, rfl, hS _ _ h1, T.cl_Stretch, T.na_Stretch_deeds, st_deeds, _, rfl, _, rfl, _, rfl, _, rfl, _, _, rfl, rfl, _, rfl, l, vs, rfl, SqL.of (hS _ _ h2), fun D hD => ?_⟩
  rw [cut_nat vs (a := pp) (w := ww) hpl (by omega) in0]
  have E1 : Ext G H G (upd H D (.lst ((vs.drop pp).take ww))) none_ := Ext.open_ hS hD
  have aD : All2 (DeedAt G) ((vs.drop pp).take ww) ((ds.drop pp).take ww) := (a2.drop pp).take ww
  refine ⟨_, rfl, sa, _, dx, _, _, rfl, E1.sub _ _ h1, T.cl_Stretch, T.na_Stretch_rounds, st_rounds, 1, rds, rfl, ⟨by decide, by decide, by omega, by have := hF.nine; omega⟩, for_range (lo := 1) (n := ((rds : Int) - 1).toNat) (fun i σ H' => ∃ (v1 v2 : Option V), σ = [some (.ref sa), some (.int pl), some (.int wi), some (.ref D), v1, v2] ∧ Ext G H G H' none_ ∧ H' D = some (.lst ((vs.drop pp).take ww)) ∧ ∀ j, 1 ≤ j → j < i + 1 → (ds.drop (pp + j * len)).take ww = (ds.drop pp).take ww)
    ⟨none, none, rfl, E1, upd_same, fun j h1 h2 => absurd h2 (by omega)⟩ ?_ ?_⟩
  · rintro i σ H' hi ⟨v1, v2, rfl, X1, hD1, hall⟩
    have hi' : i + 1 < rds := by omega
    have hin := in_ (i + 1) hi'
    -- later = place + round_number * stretch.length
    refine ⟨_, rfl, _, rfl, _, rfl, sa, _, dx, _, _, rfl, X1.sub _ _ h1, T.cl_Stretch, T.na_Stretch_length, st_length, _, _, rfl, rfl, .inl ⟨by omega, by omega⟩, _, _, rfl, rfl, ?_⟩
    have elat : pl + (1 + (i : Int)) * (len : Int) = ((pp + (i + 1) * len : Nat) : Int) := by
      rw [hpl, Int.natCast_add, Int.natCast_mul, Int.natCast_add]
      congr 2
      exact Int.add_comm _ _
    refine ⟨_, rfl, sa, _, dx, _, _, rfl, X1.sub _ _ h1, T.cl_Stretch, T.na_Stretch_deeds, st_deeds, _, rfl, _, rfl, _, rfl, _, rfl, _, _, rfl, rfl, _, rfl, l, vs, rfl, SqL.of (X1.sub _ _ h2), fun D2 hD2 => ?_⟩
    rw [cut_nat vs (a := pp + (i + 1) * len) (w := ww) elat (by rw [elat, hwi, ← Int.natCast_add]) hin]
    have X2 : Ext G H G (upd H' D2 (.lst ((vs.drop (pp + (i + 1) * len)).take ww))) none_ := X1.trans (Ext.open_ X1.sub hD2)
    have hD3 : upd H' D2 (.lst ((vs.drop (pp + (i + 1) * len)).take ww)) D = some (.lst ((vs.drop pp).take ww)) := same_new hD2 _ _ hD1
    refine ⟨_, rfl, dataDs ((ds.drop (pp + (i + 1) * len)).take ww), dataDs ((ds.drop pp).take ww), dp_deeds X2.sub upd_same ((a2.drop _).take ww), dp_deeds X2.sub hD3 aD, shaped_deeds _, shaped_deeds _, _, rfl, ?_⟩
    rw [eqv_deeds]
    by_cases c : (ds.drop (pp + (i + 1) * len)).take ww = (ds.drop pp).take ww
    · refine if_false_of (by rw [decide_eq_true c]; rfl) ?_
      refine ⟨_, _, rfl, X2, hD3, fun j j1 j2 => ?_⟩
      by_cases q : j = i + 1
      · subst q
        exact c
      · exact hall j j1 (by omega)
    · refine if_true_of (by rw [decide_eq_false c]; rfl) ?_
      exact (kQ _ X2).2 fun z => c (z (i + 1) (by omega) hi')
  · rintro σ H' ⟨v1, v2, rfl, X1, hD1, hall⟩
    exact (kQ _ X1).1 fun j j1 j2 => hall j j1 (by omega)

/-! ### the step between two deeds -/
def optV : Option Int → V
  | none => .non
  | some s => .int s
def stepB (a b : Deed) : Option Int := if (VamacBase.flatDeed a).take 2 = (VamacBase.flatDeed b).take 2 ∧ (-999 ≤ VamacBase.numberOf b - VamacBase.numberOf a ∧ VamacBase.numberOf b - VamacBase.numberOf a ≤ 999) then some (VamacBase.numberOf b - VamacBase.numberOf a) else none
theorem heads_same (a b : Deed) : (VamacBase.flatDeed a).take 2 = (VamacBase.flatDeed b).take 2 ↔ VamacBase.withNumber (VamacBase.numberOf b) a = b := by
  cases a <;> cases b <;> simp [VamacBase.flatDeed, VamacBase.withNumber, VamacBase.numberOf, VamacBase.int] <;> omega
theorem slA_deed {K : PySem.W.Frag} {G H : Hp} {v : V} {d : Deed} {Q : VK} (s : Same G H) (h : DeedAt G v d) (q : ∀ H' p, Ext G H G H' none_ → H' p = some (.tup (((VamacBase.flatDeed d).take 2).map V.int)) → Q (.ref p) H') : rSlA K v none (some 2) H Q := by
  obtain ⟨p, rfl, hp⟩ := h
  have e2 : HT.sIx (deedV d).length (deedV d).length (some 2) = min 2 (deedV d).length := HT.sIx_nat _ _ 2
  have el : (deedV d).length = (VamacBase.flatDeed d).length := List.length_map _
  refine ⟨p, deedV d, rfl, SqT.of (s _ _ hp), fun c => ?_, fun c t ht => ?_⟩
  · have c2 := c.2
    rw [e2] at c2
    refine q H p (Ext.refl s) ?_
    rw [s _ _ hp, List.take_of_length_le (by omega)]
    rfl
  · refine q _ t (Ext.open_ s ht) ?_
    rw [upd_same]
    congr 2
    unfold cutV
    rw [e2, HT.sIx_none, List.drop_zero, Nat.sub_zero]
    unfold deedV
    rw [List.map_take, List.length_map, ← List.length_map (f := V.int), ← List.take_eq_take_min]
theorem dp_tupI {K : PySem.W.Frag} {H : Hp} {p : Addr} {l : List Int} (h : H p = some (.tup (l.map V.int))) : Dp K H (.ref p) (.tuple (l.map .int)) := .tup (SqT.of h) (dp_ints l)
theorem shaped_tupI (l : List Int) : SeqAt.shaped (.tuple (l.map .int)) = true := by
  obtain ⟨h1, h2⟩ := lay_ints l
  show ((PyData.tuple (l.map .int)).canLay0 && decide (PyData.depthAll (l.map .int) + 1 ≤ 64)) = true
  rw [show (PyData.tuple (l.map .int)).canLay0 = true from h1, h2]
  rfl
theorem eqv_tupI (a b : List Int) : PyData.eqv (.tuple (a.map .int)) (.tuple (b.map .int)) = decide (a = b) := eqv_ints a b
def spStepB : Sp := fun vs H Q _ => ∃ (G : Hp) (v1 v2 : V) (a b : Deed), vs = [v1, v2] ∧ Same G H ∧ DeedAt G v1 a ∧ DeedAt G v2 b ∧ ∀ H', Ext G H G H' none_ → Q (optV (stepB a b)) H'
theorem ok_step_between (T : Txt K mg A) : Okf P w K mg base CX0 3 A.f_step_between ["first", "second"] spStepB := by
  have G_number_of := ok_number_of (P := P) (w := w) (base := base) T
  obtain ⟨fd, F, b⟩ := T.d_step_between
  refine ⟨fd, F.ok sc_step_between (fun vs H Q E h => ?_) (fun cdv AA outer s H vs Q E hr h => ?_), b, F.kp⟩
  · obtain ⟨G, v1, v2, a, b, rfl, _⟩ := h
    rfl
  obtain ⟨G, v1, v2, a, b, rfl, hS, D1, D2, kQ⟩ := h
  refine ⟨_, (pss_cons (ps_if (pt_cmpR (op_neD hr.units) (pe_slice sl_tupA (pv 0) po_none (po_some pe_int)) (pe_slice sl_tupA (pv 1) po_none (po_some pe_int)) (nomark _)) (pss_one (ps_ret pe_non)) pss_nil)
      (pss_cons (ps_set (i := 2) sc_step_between.nd rfl (Or.inl rfl) (pe_op op_sub (call_f G_number_of (hr.mono (by omega)) rfl T.g_number_of pass0 (pa_cons (pv 1) pa_nil)) (call_f G_number_of (hr.mono (by omega)) rfl T.g_number_of pass0 (pa_cons (pv 0) pa_nil))))
      (pss_one (ps_ret (pe_ifExp (pt_cmpR op_le (pe_callB call_abs (by rfl) T.z_abs (by decide +kernel) (pa_cons (pv 2) pa_nil)) (pe_glob (v := V.int 999) rfl T.i_MOST_NUMBER.choose_spec ⟨_, rfl⟩) (nomark _)) (pv 2) pe_non))))), ?_⟩
  refine ⟨_, rfl, _, rfl, slA_deed hS D1 fun H1 p1 x1 h1 => ⟨_, rfl, _, rfl, slA_deed x1.sub D2 fun H2 p2 x2 h2 => ?_⟩⟩
  have X2 := x1.trans x2
  refine ⟨_, _, dp_tupI (x2.same _ _ h1), dp_tupI h2, shaped_tupI _, shaped_tupI _, _, rfl, ?_⟩
  rw [eqv_tupI]
  by_cases c : (VamacBase.flatDeed a).take 2 = (VamacBase.flatDeed b).take 2
  · refine if_false_of (by rw [decide_eq_true c]; rfl) ?_
    refine ⟨_, rfl, G, v2, b, rfl, X2.sub, D2, _, rfl, G, v1, a, rfl, X2.sub, D1, _, _, rfl, rfl, ?_⟩
    refine ⟨_, rfl, _, rfl, _, _, rfl, rfl, _, rfl, ?_⟩
    refine if_dec (fun c2 => ?_) (fun c2 => ?_)
    · refine ⟨_, rfl, ?_⟩
      have e : stepB a b = some (VamacBase.numberOf b - VamacBase.numberOf a) := if_pos ⟨c, by split at c2 <;> omega⟩
      have := kQ H2 X2
      rw [e] at this
      exact this
    · have e : stepB a b = none := if_neg fun z => c2 (by split <;> omega)
      have := kQ H2 X2
      rw [e] at this
      exact this
  · refine if_true_of (by rw [decide_eq_false c]; rfl) ?_
    have e : stepB a b = none := if_neg fun z => c z.1
    have := kQ H2 X2
    rw [e] at this
    exact this

/-! ### the deed as a first piece -/
def spDeedCh (A : Ad) : Sp := fun vs H Q _ => ∃ (G : Hp) (sa : Addr) (pl : Int) (ds : List Deed) (st len rds deep p : Nat), vs = [.ref sa, .int pl] ∧ pl = ((st + p : Nat) : Int) ∧ Same G H ∧ StretchAt A G sa ds st len rds deep ∧ Fit ds st len rds ∧ p < len ∧
  ∀ (G' H' : Hp) (r : Addr), Ext G H G' H' none_ → FirstsAt A G' r (deedFirst (roundsOf ds st len rds) p) → Q (.ref r) H'
theorem value_of {s : Int} (h : -999 ≤ s ∧ s ≤ 999) : VamacBase.okValue s = true := by
  show (decide ((0 - 999 : Int) ≤ s) && decide (s ≤ (999 : Int))) = true
  rw [decide_eq_true (by omega), decide_eq_true (by omega)]
  rfl
theorem ok_deed_choices (T : Txt K mg A) : Okf P w K mg base CX0 4 A.f_deed_choices ["stretch", "place"] (spDeedCh A) := by
  have G_step_between := ok_step_between (P := P) (w := w) (base := base) T
  have G_deed_at_round := ok_deed_at_round (P := P) (w := w) (base := base) T
  have G_Folded_init := ok_Folded_init (P := P) (w := w) (base := base) T
  have G_DeedPiece_init := ok_DeedPiece_init (P := P) (w := w) (base := base) T
  obtain ⟨fd, F, b⟩ := T.d_deed_choices
  refine ⟨fd, F.ok sc_deed_choices (fun vs H Q E h => ?_) (fun cdv AA outer s H vs Q E hr h => ?_), b, F.kp⟩
  · obtain ⟨G, sa, pl, ds, st, len, rds, deep, p, rfl, _⟩ := h
    rfl
  obtain ⟨G, sa, pl, ds, st, len, rds, deep, p, rfl, hpl, hS, ⟨dx, l, h1, vs, h2, a2⟩, hF, hp, kQ⟩ := h
  refine ⟨_, (pss_cons (ps_set (i := 2) sc_deed_choices.nd rfl (Or.inl rfl) (pe_ix ix_list (pe_fld (pv 0) rfl) (pv 1) (fun _ _ => rfl)))
      (pss_cons (ps_set (i := 3) sc_deed_choices.nd rfl (Or.inl rfl) pe_int)
      (pss_cons (ps_if (pt_cmpR op_gt (pe_fld (pv 0) rfl) pe_int (nomark _)) (pss_one (ps_set (i := 3) sc_deed_choices.nd rfl (Or.inl rfl) (call_f G_step_between (hr.mono (by omega)) rfl T.g_step_between pass0 (pa_cons (pv 2) (pa_cons (pe_ix ix_list (pe_fld (pv 0) rfl) (pe_op op_add (pv 1) (pe_fld (pv 0) rfl)) (fun _ _ => rfl)) pa_nil))))) pss_nil)
      (pss_cons (ps_if (pt_cmpR op_isN (pv 3) pe_non (nomark _)) (pss_one (ps_ret (pe_lst pa_nil))) pss_nil)
      (pss_cons (ps_for PassesOwn.never rfl (pi_range2 rfl T.z_range (pa_cons pe_int (pa_cons (pe_fld (pv 0) rfl) pa_nil))) (pg_name (i := 4) sc_deed_choices.nd rfl (Or.inl rfl)) (pss_cons (ps_set (i := 5) sc_deed_choices.nd rfl (Or.inl rfl) (pe_ix ix_list (pe_fld (pv 0) rfl) (pe_op op_add (pv 1) (pe_op op_mul (pv 4) (pe_fld (pv 0) rfl))) (fun _ _ => rfl)))
      (pss_one (ps_if (pt_cmpR (op_neD hr.units) (pv 5) (call_f G_deed_at_round (hr.mono (by omega)) rfl T.g_deed_at_round pass0 (pa_cons (pv 2) (pa_cons (pv 3) (pa_cons (pv 4) pa_nil)))) (nomark _)) (pss_one (ps_ret (pe_lst pa_nil))) pss_nil))))
      (pss_one (ps_ret (pe_lst (pa_cons (call_c T.mk_Folded G_Folded_init (hr.mono (by omega)) rfl T.g_Folded pass0 (pa_cons pe_int (pa_cons (pe_lst (pa_cons (call_c T.mk_DeedPiece G_DeedPiece_init (hr.mono (by omega)) rfl T.g_DeedPiece pass0 (pa_cons (pv 2) (pa_cons (pv 3) pa_nil))) pa_nil)) (pa_cons pe_int (pa_cons pe_int pa_nil))))) pa_nil))))))))), ?_⟩
  have hlen := a2.length
  have hfit := hF.fit
  have hfew := hF.few
  have hnine := hF.nine
  have in_ : ∀ j, j < rds → st + p + j * len < ds.length := fun j hj => by
    have := mul_fit (p := p + 1) hfit hj hp
    omega
  -- the column
  obtain ⟨c, hc⟩ : ∃ c : Nat → Deed, ∀ j < rds, ds[st + p + j * len]? = some (c j) := ⟨fun j => ds[st + p + j * len]?.getD .down, fun j hj => by show _ = some (ds[st + p + j * len]?.getD .down); rw [List.getElem?_eq_getElem (in_ j hj)]; rfl⟩
  have hv : ∀ j < rds, ∃ v, vs[st + p + j * len]? = some v ∧ DeedAt G v (c j) := fun j hj => a2.get' (hc j hj)
  obtain ⟨d1, d2⟩ := deedFirst_eq hF.one hp hc
  obtain ⟨v0, hv0, D0⟩ := hv 0 hF.one
  have lookL : ∀ {H' : Hp}, Ext G H G H' none_ → SqL K H' l vs := fun X => SqL.of (X.sub _ _ h2)
  -- none fits
  have out : ∀ (G2 H2 : Hp), Ext G H G2 H2 none_ → ¬ fitsIn c rds → ∀ t, H2 t = none → Q (.ref t) (upd H2 t (.lst [])) := fun G2 H2 X nf t ht => kQ (upd G2 t _) _ t (X.trans (Ext.new X.sub ht)) (by rw [d2 nf]; exact ⟨[], upd_same, .nil⟩)
  -- it fits
  have fin : ∀ (sv : Int) (G2 H2 : Hp), Ext G H G2 H2 none_ → sv = stepIn c rds → fitsIn c rds → ∀ (x dx : Addr), H2 x = none → H2 dx = none → ∀ t, mkH H2 x dx A.c_DeedPiece [("deed", v0), ("step", .int sv)] t = none →
      ∀ (y dy : Addr), upd (mkH H2 x dx A.c_DeedPiece [("deed", v0), ("step", .int sv)]) t (.lst [.ref x]) y = none → upd (mkH H2 x dx A.c_DeedPiece [("deed", v0), ("step", .int sv)]) t (.lst [.ref x]) dy = none →
      ∀ r, mkH (upd (mkH H2 x dx A.c_DeedPiece [("deed", v0), ("step", .int sv)]) t (.lst [.ref x])) y dy A.c_Folded (foF 1 t 1 1) r = none → Q (.ref r) (upd (mkH (upd (mkH H2 x dx A.c_DeedPiece [("deed", v0), ("step", .int sv)]) t (.lst [.ref x])) y dy A.c_Folded (foF 1 t 1 1)) r (.lst [.ref y])) :=
    fun sv G2 H2 X hsv hfi x dx nx nd t ht y dy ny ndy r hr => by
      have Y1 := X.trans (Ext.made (C := A.c_DeedPiece) (fs := [("deed", v0), ("step", .int sv)]) X.sub nx nd)
      have Y2 := Y1.trans (Ext.new (o := .lst [.ref x]) Y1.sub ht)
      have Y3 := Y2.trans (Ext.made (C := A.c_Folded) (fs := foF 1 t 1 1) Y2.sub ny ndy)
      refine kQ _ _ r (Y3.trans (Ext.new Y3.sub hr)) ?_
      rw [d1 hfi]
      have s3 : Same _ (upd _ r (.lst [.ref y])) := same_new (Y3.sub.free hr)
      have s2 := (same_new (o := .ins A.c_Folded dy (foF 1 t 1 1)) (Y2.sub.free ny)).trans s3
      have s1 := (same_new (o := .lst [.ref x]) (Y1.sub.free ht)).trans s2
      have D0' := (D0.mono X.mono).mono ((same_new (o := .ins A.c_DeedPiece dx [("deed", v0), ("step", .int sv)]) (X.sub.free nx)).trans s1)
      refine ⟨_, upd_same, .one ⟨y, dy, t, rfl, s3 _ _ upd_same, ⟨[.ref x], s2 _ _ upd_same, ?_⟩⟩⟩
      exact ⟨x, dx, v0, [], rfl, by rw [← hsv]; exact s1 _ _ upd_same, D0', rfl⟩
  -- first = stretch.deeds[place]
  refine ⟨_, rfl, sa, _, dx, _, _, rfl, hS _ _ h1, T.cl_Stretch, T.na_Stretch_deeds, st_deeds, _, rfl, l, vs, _, v0, rfl, rfl, SqL.of (hS _ _ h2), atI_ok (by omega) (by rw [hpl, Int.toNat_natCast]; rw [Nat.zero_mul, Nat.add_zero] at hv0; exact hv0), ?_⟩
  -- if stretch.rounds > 1
  refine ⟨_, rfl, sa, _, dx, _, _, rfl, hS _ _ h1, T.cl_Stretch, T.na_Stretch_rounds, st_rounds, _, _, rfl, rfl, _, rfl, ?_⟩
  refine if_dec (fun c1 => ?_) (fun c1 => ?_)
  · have r2 : 1 < rds := by omega
    obtain ⟨v1, hv1, D1⟩ := hv 1 r2
    have hst : stepIn c rds = VamacBase.numberOf (c 1) - VamacBase.numberOf (c 0) := if_neg (by omega)
    refine ⟨_, rfl, _, rfl, sa, _, dx, _, _, rfl, hS _ _ h1, T.cl_Stretch, T.na_Stretch_deeds, st_deeds, _, rfl, _, rfl, sa, _, dx, _, _, rfl, hS _ _ h1, T.cl_Stretch, T.na_Stretch_length, st_length, _, _, rfl, rfl, l, vs, _, v1, rfl, rfl, SqL.of (hS _ _ h2), atI_ok (by omega) (by rw [Nat.one_mul] at hv1; rw [← hv1]; congr 1; omega), G, v0, v1, c 0, c 1, rfl, hS, D0, D1, fun H0 x0 => ?_⟩
    -- if step is None
    refine ⟨_, rfl, rfl, _, rfl, ?_⟩
    by_cases cs : stepB (c 0) (c 1) = none
    · refine if_true_of (by rw [cs]; rfl) ?_
      refine ⟨(by show 0 ≤ sizeLine; decide), fun t ht => out G H0 x0 (fun z => ?_) t ht⟩
      have z1 := value_le z.1
      have z2 := z.2 1 (Nat.le_refl _) r2
      unfold stepB at cs
      split at cs
      · cases cs
      · rename_i nc
        refine nc ⟨(heads_same _ _).mpr ?_, by omega⟩
        rw [z2]
        unfold atRound
        rw [hst]
        cases c 0 <;> simp [VamacBase.withNumber, VamacBase.numberOf]
    · have es : stepB (c 0) (c 1) = some (VamacBase.numberOf (c 1) - VamacBase.numberOf (c 0)) ∧ (-999 ≤ stepIn c rds ∧ stepIn c rds ≤ 999) := by
        unfold stepB at cs ⊢
        split at cs
        · rename_i q
          rw [if_pos q, hst]
          exact ⟨rfl, q.2⟩
        · exact absurd rfl cs
      have hval := es.2
      rw [es.1]
      refine if_false_of rfl ?_
      refine ⟨_, rfl, sa, _, dx, _, _, rfl, x0.sub _ _ h1, T.cl_Stretch, T.na_Stretch_rounds, st_rounds, 1, rds, rfl, ⟨by decide, by decide, by omega, by have := hF.nine; omega⟩, for_range (lo := 1) (n := ((rds : Int) - 1).toNat) (fun i σ H' => ∃ (v1 v2 : Option V) (G' : Hp), σ = [some (.ref sa), some (.int pl), some v0, some (.int (VamacBase.numberOf (c 1) - VamacBase.numberOf (c 0))), v1, v2] ∧ Ext G H G' H' none_ ∧ ∀ j, 1 ≤ j → j < i + 1 → c j = atRound (c 0) (stepIn c rds) j)
        ⟨none, none, G, rfl, x0, fun j h1 h2 => absurd h2 (by omega)⟩ ?_ ?_⟩
      · rintro i σ H' hi ⟨w1, w2, G', rfl, X1, hall⟩
        have hi' : i + 1 < rds := by omega
        obtain ⟨vi, hvi, Di⟩ := hv (i + 1) hi'
        have ein : pl + (1 + (i : Int)) * (len : Int) = ((st + p + (i + 1) * len : Nat) : Int) := by
          rw [hpl, Int.natCast_add _ ((i + 1) * len), Int.natCast_mul, Int.natCast_add i 1]
          congr 2
          exact Int.add_comm _ _
        -- deed = stretch.deeds[place + round_number * stretch.length]
        refine ⟨_, rfl, sa, _, dx, _, _, rfl, X1.sub _ _ (X1.mono _ _ h1), T.cl_Stretch, T.na_Stretch_deeds, st_deeds, _, rfl, _, rfl, _, rfl, sa, _, dx, _, _, rfl, X1.sub _ _ (X1.mono _ _ h1), T.cl_Stretch, T.na_Stretch_length, st_length, _, _, rfl, rfl, .inl ⟨by omega, by omega⟩, _, _, rfl, rfl, l, vs, _, vi, rfl, rfl, SqL.of (X1.sub _ _ (X1.mono _ _ h2)), atI_ok (by rw [ein]; omega) (by rw [ein, Int.toNat_natCast]; exact hvi), ?_⟩
        -- if deed != deed_at_round(first, step, round_number)
        refine ⟨_, rfl, _, rfl, _, rfl, _, rfl, G', v0, c 0, _, _, rfl, X1.sub, D0.mono X1.mono, ⟨by omega, by omega⟩, fun G5 H5 v5 x5 D5 => ?_⟩
        have X5 := X1.trans x5
        refine ⟨dataD (c (i + 1)), dataD _, dp_deed X5.sub (Di.mono X5.mono), dp_deed X5.sub D5, shaped_deed _, shaped_deed _, _, rfl, ?_⟩
        rw [eqv_deed]
        have eat : VamacBase.withNumber (VamacBase.numberOf (c 0) + (VamacBase.numberOf (c 1) - VamacBase.numberOf (c 0)) * (1 + (i : Int))) (c 0) = atRound (c 0) (stepIn c rds) (i + 1) := by
          unfold atRound
          rw [hst, Int.natCast_add, Int.add_comm (i : Int)]
          rfl
        rw [eat]
        by_cases q : c (i + 1) = atRound (c 0) (stepIn c rds) (i + 1)
        · refine if_false_of (by rw [decide_eq_true q]; rfl) ?_
          refine ⟨_, _, G5, rfl, X5, fun j j1 j2 => ?_⟩
          by_cases q2 : j = i + 1
          · subst q2
            exact q
          · exact hall j j1 (by omega)
        · refine if_true_of (by rw [decide_eq_false q]; rfl) ?_
          exact ⟨(by show 0 ≤ sizeLine; decide), fun t ht => out G5 H5 X5 (fun z => q (z.2 (i + 1) (by omega) hi')) t ht⟩
      · rintro σ H' ⟨w1, w2, G', rfl, X1, hall⟩
        have hfi : fitsIn c rds := ⟨value_of hval, fun j j1 j2 => hall j j1 (by omega)⟩
        refine ⟨_, rfl, _, rfl, fun x dx nx nd ne => made_of (ws := [v0, .int (VamacBase.numberOf (c 1) - VamacBase.numberOf (c 0))]) rfl ?_⟩
        refine ⟨rfl, (by show 1 ≤ sizeLine; decide), fun t ht y dy ny ndy ney => made_of (ws := [.int 1, .ref t, .int 1, .int 1]) rfl ?_⟩
        exact ⟨rfl, (by show 1 ≤ sizeLine; decide), fun r hr => fin _ G' H' X1 hst.symm hfi x dx nx nd t ht y dy ny ndy r hr⟩
  · have r1 : rds = 1 := by
      have := hF.one
      omega
    have hst : stepIn c rds = 0 := if_pos r1
    have hfi : fitsIn c rds := ⟨by rw [hst]; rfl, fun j j1 j2 => absurd j2 (by omega)⟩
    refine ⟨_, rfl, rfl, _, rfl, ?_⟩
    refine if_false_of rfl ?_
    refine ⟨_, rfl, sa, _, dx, _, _, rfl, hS _ _ h1, T.cl_Stretch, T.na_Stretch_rounds, st_rounds, 1, rds, rfl, ⟨by decide, by decide, by omega, by have := hF.nine; omega⟩, for_range (lo := 1) (n := ((rds : Int) - 1).toNat) (fun i σ H' => ∃ (v1 v2 : Option V), σ = [some (.ref sa), some (.int pl), some v0, some (.int 0), v1, v2] ∧ Ext G H G H' none_) ⟨none, none, rfl, Ext.refl hS⟩ ?_ ?_⟩
    · rintro i σ H' hi _
      exact absurd hi (by omega)
    · rintro σ H' ⟨w1, w2, rfl, X1⟩
      refine ⟨_, rfl, _, rfl, fun x dx nx nd ne => made_of (ws := [v0, .int 0]) rfl ?_⟩
      refine ⟨rfl, (by show 1 ≤ sizeLine; decide), fun t ht y dy ny ndy ney => made_of (ws := [.int 1, .ref t, .int 1, .int 1]) rfl ?_⟩
      exact ⟨rfl, (by show 1 ≤ sizeLine; decide), fun r hr => fin _ G H' X1 hst.symm hfi x dx nx nd t ht y dy ny ndy r hr⟩
end
end Lf

set_option Elab.async false
set_option linter.all false
set_option maxRecDepth 100000
set_option maxHeartbeats 4000000
/-! # Periods -/
namespace Lf
open VamacBase (Deed Prog)

/-! ### each so many deeds -/
def every (m : Nat) (x : List Deed) : List Deed := x.zipIdx.filterMap fun y => if y.2 % m = 0 then some y.1 else none
theorem every_take {m : Nat} (hm : 1 ≤ m) (x : List Deed) : ∀ n, n ≤ x.length → ∃ k, every m (x.take n) = (List.range k).map (fun i => x[i * m]?.getD .down) ∧ ∀ i, i < k ↔ i * m < n
  | 0, _ => ⟨0, rfl, fun i => ⟨fun z => absurd z (Nat.not_lt_zero _), fun z => absurd z (Nat.not_lt_zero _)⟩⟩
  | n + 1, h => by
    obtain ⟨k, e, hk⟩ := every_take hm x n (by omega)
    have hn : n < x.length := by omega
    have et : every m (x.take (n + 1)) = every m (x.take n) ++ (if n % m = 0 then [x[n]] else []) := by
      unfold every
      rw [List.take_add_one, List.getElem?_eq_getElem hn, Option.toList_some, List.zipIdx_append, List.filterMap_append]
      congr 1
      rw [List.length_take, Nat.min_eq_left (by omega), List.zipIdx_cons, List.zipIdx_nil, Nat.zero_add]
      by_cases c : n % m = 0
      · simp [c]
      · simp [c]
    rw [et, e]
    by_cases c : n % m = 0
    · rw [if_pos c]
      obtain ⟨q, hq⟩ : ∃ q, n = q * m := ⟨n / m, by have := Nat.div_add_mod n m; rw [c, Nat.add_zero, Nat.mul_comm] at this; exact this.symm⟩
      have lt : ∀ i, i * m < n ↔ i < q := fun i => by
        rw [hq]
        exact ⟨fun z => Nat.lt_of_mul_lt_mul_right z, fun z => Nat.mul_lt_mul_of_pos_right z (by omega)⟩
      have ek : k = q := by
        have h1 := (hk q).trans (lt q)
        have h2 := (hk k).trans (lt k)
        omega
      refine ⟨k + 1, ?_, fun i => ?_⟩
      · rw [List.range_succ, List.map_append, List.map_cons, List.map_nil, ek, ← hq, List.getElem?_eq_getElem hn]
        rfl
      · have h1 : i * m < n + 1 ↔ i ≤ q := by
          rw [hq, Nat.lt_succ_iff]
          exact ⟨fun z => Nat.le_of_mul_le_mul_right z (by omega), fun z => Nat.mul_le_mul_right _ z⟩
        omega
    · rw [if_neg c, List.append_nil]
      refine ⟨k, rfl, fun i => ?_⟩
      have h1 : i * m ≠ n := fun z => c (by rw [← z]; exact Nat.mul_mod_left _ _)
      have := hk i
      omega
theorem every_all {m : Nat} (hm : 1 ≤ m) (x : List Deed) : ∃ k, every m x = (List.range k).map (fun i => x[i * m]?.getD .down) ∧ ∀ i, i < k ↔ i * m < x.length := by
  have := every_take hm x x.length (Nat.le_refl _)
  rw [List.take_length] at this
  exact this

/-! ### a chain of steps -/
theorem stepB_some {a b : Deed} {st : Int} : stepB a b = some st ↔ VamacBase.withNumber (VamacBase.numberOf b) a = b ∧ st = VamacBase.numberOf b - VamacBase.numberOf a ∧ (-999 ≤ st ∧ st ≤ 999) := by
  unfold stepB
  constructor
  · intro h
    split at h
    · rename_i c
      have e := Option.some.inj h
      exact ⟨(heads_same _ _).mp c.1, e.symm, by omega⟩
    · cases h
  · rintro ⟨h1, rfl, h2⟩
    rw [if_pos ⟨(heads_same _ _).mpr h1, h2⟩]
theorem with_with (u v : Int) (d : Deed) : VamacBase.withNumber u (VamacBase.withNumber v d) = VamacBase.withNumber u d := by cases d <;> rfl
theorem stepB_at {d : Deed} {u v : Int} (h : VamacBase.hasNumber d = true ∨ u = v) (hr : -999 ≤ v - u ∧ v - u ≤ 999) : stepB (VamacBase.withNumber u d) (VamacBase.withNumber v d) = some (v - u) := by
  rw [stepB_some]
  cases d with
  | write f x => exact ⟨rfl, rfl, hr⟩
  | add f x => exact ⟨rfl, rfl, hr⟩
  | find f x => exact ⟨rfl, rfl, hr⟩
  | _ =>
    rcases h with h | rfl
    · cases h
    · exact ⟨rfl, by show _ - _ = (0 : Int) - 0; omega, by omega⟩
/-- the steps of a column, as the program asks them -/
def Chain (c : Nat → Deed) (k : Nat) : Prop := ∀ i, i + 1 < k → ∃ st, stepB (c i) (c (i + 1)) = some st ∧ (i + 2 < k → stepB (c (i + 1)) (c (i + 2)) = some st)
theorem chain_fits {c : Nat → Deed} {k : Nat} (hk : 1 ≤ k) : fitsIn c k ↔ Chain c k := by
  constructor
  · rintro ⟨ok, all⟩
    have okv := value_le ok
    have all0 : ∀ j, j < k → c j = atRound (c 0) (stepIn c k) j := fun j hj => by
      by_cases z : j = 0
      · subst z
        exact (atRound_zero _ _).symm
      · exact all j (by omega) hj
    have one : ∀ i, i + 1 < k → stepB (c i) (c (i + 1)) = some (stepIn c k) := fun i hi => by
      rw [all0 i (by omega), all0 (i + 1) hi]
      unfold atRound
      have e : (VamacBase.numberOf (c 0) + stepIn c k * ((i + 1 : Nat) : Int)) - (VamacBase.numberOf (c 0) + stepIn c k * ((i : Nat) : Int)) = stepIn c k := by
        rw [Int.natCast_add, Int.mul_add]
        omega
      have := stepB_at (d := c 0) (u := VamacBase.numberOf (c 0) + stepIn c k * ((i : Nat) : Int)) (v := VamacBase.numberOf (c 0) + stepIn c k * ((i + 1 : Nat) : Int)) ?_ (by rw [e]; exact okv)
      · rw [e] at this
        exact this
      · cases hn : VamacBase.hasNumber (c 0) with
        | true => exact .inl rfl
        | false =>
          refine .inr ?_
          have h1 := all0 1 (by omega)
          have e1 : stepIn c k = 0 := by
            unfold stepIn
            split
            · rfl
            · rw [h1]
              unfold atRound
              rw [(deed_nonum hn _).1]
              omega
          rw [e1, Int.zero_mul, Int.zero_mul]
    exact fun i hi => ⟨_, one i hi, fun h2 => one (i + 1) h2⟩
  · intro h
    by_cases k1 : k = 1
    · subst k1
      refine ⟨?_, fun j j1 j2 => absurd j2 (by omega)⟩
      have e : stepIn c 1 = 0 := if_pos rfl
      rw [e]
      rfl
    · obtain ⟨s0, hs0, _⟩ := h 0 (by omega)
      have allS : ∀ i, i + 1 < k → stepB (c i) (c (i + 1)) = some s0 := fun i => by
        induction i with
        | zero => exact fun _ => hs0
        | succ i ih =>
          intro hi
          obtain ⟨st, h1, h2⟩ := h i (by omega)
          rw [ih (by omega)] at h1
          cases h1
          exact h2 hi
      obtain ⟨e1, e2, e3⟩ := stepB_some.mp hs0
      have es : stepIn c k = s0 := by
        unfold stepIn
        rw [if_neg k1]
        exact e2.symm
      rw [fitsIn, es]
      refine ⟨value_of e3, fun j j1 j2 => ?_⟩
      have allC : ∀ j, j < k → c j = atRound (c 0) s0 j ∧ (VamacBase.numberOf (c j) = VamacBase.numberOf (c 0) + s0 * (j : Int)) := fun j => by
        induction j with
        | zero =>
          intro _
          refine ⟨(atRound_zero _ _).symm, ?_⟩
          show _ = _ + s0 * 0
          rw [Int.mul_zero, Int.add_zero]
        | succ j ih =>
          intro hj
          obtain ⟨i1, i2⟩ := ih (by omega)
          obtain ⟨f1, f2, f3⟩ := stepB_some.mp (allS j hj)
          have en : VamacBase.numberOf (c (j + 1)) = VamacBase.numberOf (c 0) + s0 * ((j + 1 : Nat) : Int) := by
            rw [Int.natCast_add, Int.mul_add]
            show _ = _ + (_ + s0 * 1)
            rw [Int.mul_one]
            omega
          refine ⟨?_, en⟩
          rw [← f1, i1]
          unfold atRound
          rw [with_with, en]
      exact (allC j j2).1
/-! ### the last deeds show a period -/
def GA (l : List Deed) (p m : Nat) : Prop := ∀ a b, l[p]? = some a → l[p + m]? = some b → ∃ st, stepB a b = some st ∧ ∀ c, l[p + m + m]? = some c → stepB b c = some st
theorem period_iff {l : List Deed} {m s : Nat} (hm : 1 ≤ m) (hs : s ≤ l.length) : Vamacb.hasPeriod (l.drop s) m = true ↔ ∀ p, s ≤ p → p < l.length → GA l p m := by
  have ed : ∀ j, ((l.drop s).drop j).zipIdx.filterMap (fun x => if x.2 % m = 0 then some x.1 else none) = every m (l.drop (s + j)) := fun j => by
    rw [List.drop_drop]
    rfl
  have key : ∀ j, j < l.length - s → ((Vamacb.stepOf (every m (l.drop (s + j)))).isSome = true ↔ ∀ i, s + j + i * m < l.length → GA l (s + j + i * m) m) := fun j hj => by
    obtain ⟨k, e, hk⟩ := every_all hm (l.drop (s + j))
    rw [e]
    rw [List.length_drop] at hk
    have hk1 : 1 ≤ k := by
      have := (hk 0).mpr (by omega)
      omega
    generalize hc : (fun i => (l.drop (s + j))[i * m]?.getD Deed.down) = c
    have hcg : ∀ i, i < k → l[s + j + i * m]? = some (c i) := fun i hi => by
      have := (hk i).mp hi
      rw [← hc]
      show _ = some ((l.drop (s + j))[i * m]?.getD Deed.down)
      rw [List.getElem?_drop, List.getElem?_eq_getElem (by omega)]
      rfl
    have inn : ∀ i, s + j + i * m < l.length ↔ i < k := fun i => by
      rw [hk i]
      omega
    have ei : ∀ i, s + j + i * m + m = s + j + (i + 1) * m := fun i => by
      rw [Nat.succ_mul]
      omega
    obtain ⟨s1, s2⟩ := stepOf_map (c := c) hk1
    have e1 : (Vamacb.stepOf ((List.range k).map c)).isSome = true ↔ fitsIn c k := by
      by_cases z : fitsIn c k
      · rw [s1 z]
        exact ⟨fun _ => z, fun _ => rfl⟩
      · rw [s2 z]
        exact ⟨fun q => Bool.noConfusion q, fun q => absurd q z⟩
    rw [e1, chain_fits hk1]
    constructor
    · intro ch i hi a b ha hb
      rw [ei] at hb
      have hi1 : i + 1 < k := (inn (i + 1)).mp (List.getElem?_eq_some_iff.mp hb).1
      rw [hcg i (by omega)] at ha
      rw [hcg (i + 1) hi1] at hb
      cases ha
      cases hb
      obtain ⟨st, h1, h2⟩ := ch i hi1
      refine ⟨st, h1, fun d hd => ?_⟩
      rw [ei, ei] at hd
      have hi2 : i + 2 < k := (inn (i + 2)).mp (List.getElem?_eq_some_iff.mp hd).1
      rw [hcg (i + 2) hi2] at hd
      cases hd
      exact h2 hi2
    · intro ga i hi
      obtain ⟨st, h1, h2⟩ := ga i ((inn i).mpr (by omega)) (c i) (c (i + 1)) (hcg i (by omega)) (by rw [ei]; exact hcg (i + 1) hi)
      exact ⟨st, h1, fun hi2 => h2 (c (i + 2)) (by rw [ei, ei]; exact hcg (i + 2) hi2)⟩
  unfold Vamacb.hasPeriod
  rw [decide_eq_true hm, Bool.true_and, List.all_eq_true]
  constructor
  · intro h p p1 p2
    have hmod : (p - s) % m < m := Nat.mod_lt _ (by omega)
    have hmle : (p - s) % m ≤ p - s := Nat.mod_le _ _
    have z := h ((p - s) % m) (List.mem_range.mpr hmod)
    rw [ed, Bool.or_eq_true] at z
    rcases z with z | z
    · have ep : s + (p - s) % m + (p - s) / m * m = p := by
        have := Nat.div_add_mod (p - s) m
        rw [Nat.mul_comm] at this
        omega
      have := (key _ (by omega)).mp z ((p - s) / m) (by rw [ep]; exact p2)
      rw [ep] at this
      exact this
    · have := of_decide_eq_true z
      rw [List.length_drop] at this
      omega
  · intro h j hj
    rw [ed, Bool.or_eq_true]
    by_cases c : j < l.length - s
    · exact .inl ((key j c).mpr fun i hi => h _ (by omega) hi)
    · refine .inr (decide_eq_true ?_)
      rw [List.length_drop]
      omega
/-- the tail by where it starts -/
theorem tail_at {l : List Deed} {m s : Nat} (hm : 1 ≤ m) (hs : s ≤ l.length) (h1 : ∀ p, s ≤ p → p < l.length → GA l p m) (h2 : ∀ q, s = q + 1 → ¬ GA l q m) : Vamacb.tailOf l m = l.length - s := by
  unfold Vamacb.tailOf
  have e : ((List.range (l.length + 1)).reverse.find? fun t => Vamacb.hasPeriod (l.drop (l.length - t)) m) = some (l.length - s) := by
    rw [List.find?_eq_some_iff_getElem]
    refine ⟨?_, s, by rw [List.length_reverse, List.length_range]; omega, ?_, fun j hj => ?_⟩
    · rw [show l.length - (l.length - s) = s by omega]
      exact (period_iff hm hs).mpr h1
    · rw [List.getElem_reverse, List.getElem_range, List.length_range]
      omega
    · rw [List.getElem_reverse, List.getElem_range, List.length_range]
      have ej : l.length - (l.length + 1 - 1 - j) = j := by omega
      rw [ej]
      cases q : Vamacb.hasPeriod (l.drop j) m with
      | false => rfl
      | true =>
        have := (period_iff hm (by omega)).mp q
        obtain ⟨s', rfl⟩ : ∃ s', s = s' + 1 := ⟨s - 1, by omega⟩
        exact absurd (this s' (by omega) (by omega)) (h2 s' rfl)
  rw [e]
  rfl
/-! ### the best -/
structure Best (f : Nat → Nat) (xs : List Nat) (b t : Nat) : Prop where
  le : ∀ y ∈ xs, f y ≤ t
  max : (xs.map f).foldl Nat.max 0 = t
  find : (xs = [] ∧ b = 0 ∧ t = 0) ∨ (b ∈ xs ∧ f b = t ∧ (xs.find? fun m => f m == t) = some b)
theorem Best.nil (f : Nat → Nat) : Best f [] 0 0 := ⟨(fun _ h => nomatch h), rfl, .inl ⟨rfl, rfl, rfl⟩⟩
theorem Best.more {f : Nat → Nat} {xs : List Nat} {b t x : Nat} (h : Best f xs b t) (hx : t < f x) : Best f (xs ++ [x]) x (f x) := by
  refine ⟨fun y hy => ?_, ?_, .inr ⟨List.mem_append_right _ (List.mem_singleton.mpr rfl), rfl, ?_⟩⟩
  · rcases List.mem_append.mp hy with hy | hy
    · have := h.le y hy
      omega
    · rw [List.mem_singleton.mp hy]
      exact Nat.le_refl _
  · rw [List.map_append, List.foldl_append, h.max]
    exact Nat.max_eq_right (by omega)
  · rw [List.find?_append, List.find?_eq_none.mpr (fun y hy => by
      have := h.le y hy
      simp
      omega)]
    simp
theorem Best.same {f : Nat → Nat} {xs : List Nat} {b t x : Nat} (h : Best f xs b t) (hx : f x ≤ t) (h0 : 0 < f x) : Best f (xs ++ [x]) b t := by
  rcases h.find with ⟨_, _, z⟩ | ⟨f1, f2, f3⟩
  · omega
  · refine ⟨fun y hy => ?_, ?_, .inr ⟨List.mem_append_left _ f1, f2, ?_⟩⟩
    · rcases List.mem_append.mp hy with hy | hy
      · exact h.le y hy
      · rw [List.mem_singleton.mp hy]
        exact hx
    · rw [List.map_append, List.foldl_append, h.max]
      exact Nat.max_eq_left hx
    · rw [List.find?_append, f3]
      rfl
/-- those that count, of the first -/
def countTo (l : List Deed) (i : Nat) : List Nat := ((List.range i).map (· + 1)).filter (Vamacb.shows l)
theorem countTo_succ (l : List Deed) (i : Nat) : countTo l (i + 1) = countTo l i ++ (if Vamacb.shows l (i + 1) then [i + 1] else []) := by
  unfold countTo
  rw [List.range_succ, List.map_append, List.filter_append, List.map_cons, List.map_nil]
  congr 1
  by_cases c : Vamacb.shows l (i + 1) = true
  · rw [if_pos c, List.filter_cons_of_pos c]
    rfl
  · rw [if_neg c, List.filter_cons_of_neg c]
    rfl
theorem tail_le (l : List Deed) (m : Nat) : Vamacb.tailOf l m ≤ l.length := by
  unfold Vamacb.tailOf
  cases h : ((List.range (l.length + 1)).reverse.find? fun t => Vamacb.hasPeriod (l.drop (l.length - t)) m) with
  | none => exact Nat.zero_le _
  | some t =>
    have := List.mem_of_find?_eq_some h
    rw [List.mem_reverse, List.mem_range] at this
    show t ≤ _
    omega
theorem counts_all (l : List Deed) : ((List.range (l.length + 1)).drop 1).filter (Vamacb.shows l) = countTo l (l.length - 1) := by
  have e : (List.range (l.length + 1)).drop 1 = (List.range l.length).map (· + 1) := by
    rw [List.range_succ_eq_map]
    rfl
  rw [e]
  show countTo l l.length = _
  cases h : l.length with
  | zero => rfl
  | succ n =>
    rw [countTo_succ, Nat.add_sub_cancel]
    have : Vamacb.shows l (n + 1) = false := by
      unfold Vamacb.shows
      have := tail_le l (n + 1)
      rw [decide_eq_false (by omega), Bool.false_and]
    rw [this]
    exact List.append_nil _
theorem guess_none {l : List Deed} {t : Nat} (h : Best (Vamacb.tailOf l) (countTo l (l.length - 1)) 0 t) : Vamacb.guess l = none := by
  have e : countTo l (l.length - 1) = [] := by
    rcases h.find with ⟨z, _⟩ | ⟨z, _⟩
    · exact z
    · unfold countTo at z
      obtain ⟨y, _, hy⟩ := List.mem_map.mp (List.mem_filter.mp z).1
      omega
  unfold Vamacb.guess
  rw [counts_all, e]
  rfl
theorem guess_some {l : List Deed} {b t : Nat} (h : Best (Vamacb.tailOf l) (countTo l (l.length - 1)) b t) (hb : b ≠ 0) : Vamacb.guess l = (Vamacb.nextOf (l.drop (l.length - t)) b).map (fun d => ⟨b, t, d⟩) ∧ b < t ∧ t ≤ l.length := by
  rcases h.find with ⟨_, z, _⟩ | ⟨z1, z2, z3⟩
  · exact absurd z hb
  · refine ⟨?_, ?_, by rw [← z2]; exact tail_le _ _⟩
    · unfold Vamacb.guess
      rw [counts_all]
      simp only [h.max, z3]
      rfl
    · have := (List.mem_filter.mp z1).2
      unfold Vamacb.shows at this
      rw [Bool.and_eq_true] at this
      have := of_decide_eq_true this.1
      omega
theorem next_at {l : List Deed} {b t : Nat} {x : Deed} (hb : 1 ≤ b) (hbt : b < t) (ht : t ≤ l.length) (hx : l[l.length - b]? = some x) :
    (t < 2 * b → Vamacb.nextOf (l.drop (l.length - t)) b = some x) ∧ (2 * b ≤ t → ∀ y, l[l.length - 2 * b]? = some y → Vamacb.nextOf (l.drop (l.length - t)) b = some (VamacBase.withNumber (VamacBase.numberOf x + (VamacBase.numberOf x - VamacBase.numberOf y) * 1) x)) := by
  have el : (l.drop (l.length - t)).length = t := by
    rw [List.length_drop]
    omega
  have e1 : (l.drop (l.length - t))[t - b]? = some x := by
    rw [List.getElem?_drop, show l.length - t + (t - b) = l.length - b by omega]
    exact hx
  refine ⟨fun c => ?_, fun c y hy => ?_⟩
  · unfold Vamacb.nextOf
    rw [el, e1, if_neg (by omega)]
    rfl
  · have e2 : (l.drop (l.length - t))[t - 2 * b]? = some y := by
      rw [List.getElem?_drop, show l.length - t + (t - 2 * b) = l.length - 2 * b by omega]
      exact hy
    unfold Vamacb.nextOf
    rw [el, e1, if_pos c, e2]
    show some (VamacBase.withNumber (2 * VamacBase.numberOf x - VamacBase.numberOf y) x) = _
    congr 2
    omega
end Lf

set_option Elab.async false
set_option linter.all false
set_option maxRecDepth 100000
set_option maxHeartbeats 4000000
/-! # Foldings, found -/
namespace Lf
open PySem PySem.Spec PyProof.Rows L2
open VamacBase (Deed Prog)
open Vamacb (Folded)

section
variable {P : Program} {w : World} {K : PySem.W.Frag} {mg : Str → Option Value} {base : Heap} {A : Ad}
/-- what was found so far, by how many deeds are left -/
def TabAt (A : Ad) (G : Hp) (ws : List V) (val : Nat → Folded) (n : Nat) : Prop := ws.length = n ∧ ∀ i < n, ∃ v, ws[i]? = some v ∧ FoldedAt A G v (val i) i
theorem TabAt.mono {G G' : Hp} {ws : List V} {val : Nat → Folded} {n : Nat} (s : Same G G') (h : TabAt A G ws val n) : TabAt A G' ws val n := ⟨h.1, fun i hi => by
  obtain ⟨v, h1, h2⟩ := h.2 i hi
  exact ⟨v, h1, h2.mono s⟩⟩
theorem TabAt.more {G : Hp} {ws : List V} {val : Nat → Folded} {n : Nat} {v : V} (h : TabAt A G ws val n) (k : FoldedAt A G v (val n) n) : TabAt A G (ws ++ [v]) val (n + 1) := by
  refine ⟨by rw [List.length_append, h.1]; rfl, fun i hi => ?_⟩
  by_cases c : i < n
  · obtain ⟨u, h1, h2⟩ := h.2 i c
    exact ⟨u, by rw [List.getElem?_append_left (by rw [h.1]; exact c)]; exact h1, h2⟩
  · have e : i = n := by omega
    subst e
    exact ⟨v, by rw [List.getElem?_append_right (by rw [h.1]; exact Nat.le_refl _), h.1, Nat.sub_self]; rfl, k⟩
def spFoldLeft (A : Ad) : Sp := fun vs H Q _ => ∃ (G : Hp) (fr fo : Addr) (lf : Int) (left : Nat) (fs : List First) (val : Nat → Folded) (ws : List V), vs = [.ref fr, .ref fo, .int lf] ∧ lf = (left : Nat) ∧ Same G H ∧ FirstsAt A G fr fs ∧ H fo = some (.lst ws) ∧ TabAt A G ws val left ∧
  (∀ x ∈ fs, (1 ≤ x.width ∧ x.width ≤ left) ∧ x.ways ≠ 0 ∧ x.ways < 2 ^ 64) ∧ (∀ i < left, Good (val i) ∧ ∀ p, (val i).best = some p → p.size ≤ 14) ∧
  ∀ (G' H' : Hp) (v : V), Ext G H G' H' none_ → FoldedAt A G' v (joined fs val left) left → Q v H'
theorem ok_fold_left (T : Txt K mg A) : Okf P w K mg base CX0 3 A.f_fold_left ["firsts", "folded", "left"] (spFoldLeft A) := by
  have G_Folded_init := ok_Folded_init (P := P) (w := w) (base := base) T
  obtain ⟨fd, F, b⟩ := T.d_fold_left
  refine ⟨fd, F.ok sc_fold_left (fun vs H Q E h => ?_) (fun cdv AA outer s H vs Q E hr h => ?_), b, F.kp⟩
  · obtain ⟨G, fr, fo, lf, left, fs, val, ws, rfl, _⟩ := h
    rfl
  obtain ⟨G, fr, fo, lf, left, fs, val, ws, rfl, hlf, hS, ⟨vs, h1, a1⟩, hfo, hT, hfs, hval, kQ⟩ := h
  refine ⟨_, (pss_cons (ps_set (i := 3) sc_fold_left.nd rfl (Or.inl rfl) pe_int)
      (pss_cons (ps_set (i := 4) sc_fold_left.nd rfl (Or.inl rfl) (pe_lst pa_nil))
      (pss_cons (ps_set (i := 5) sc_fold_left.nd rfl (Or.inl rfl) pe_int)
      (pss_cons (ps_for PassesOwn.never rfl (pi_list (pv 0)) (pg_name (i := 6) sc_fold_left.nd rfl (Or.inl rfl)) (pss_cons (ps_set (i := 7) sc_fold_left.nd rfl (Or.inl rfl) (pe_ix ix_list (pv 1) (pe_op op_sub (pv 2) (pe_fld (pv 6) rfl)) (fun _ _ => rfl)))
      (pss_one (ps_if (pt_cmpR op_gt (pe_fld (pv 7) rfl) pe_int (nomark _)) (pss_cons (ps_set (i := 8) sc_fold_left.nd rfl (Or.inl rfl) (pe_op op_add (pe_fld (pv 6) rfl) (pe_fld (pv 7) rfl)))
      (pss_cons (ps_if (PW.pt (pw_or (pt_cmpR op_eq (pv 3) pe_int (nomark _)) (pw_or1 (pt_cmpR op_lt (pv 8) (pv 5) (nomark _))))) (pss_cons (ps_set (i := 4) sc_fold_left.nd rfl (Or.inl rfl) (pe_op op_cat (pe_fld (pv 6) rfl) (pe_fld (pv 7) rfl)))
      (pss_one (ps_set (i := 5) sc_fold_left.nd rfl (Or.inl rfl) (pv 8)))) pss_nil)
      (pss_one (ps_set (i := 3) sc_fold_left.nd rfl (Or.inl rfl) (pe_op op_add (pv 3) (pe_op op_mul (pe_fld (pv 6) rfl) (pe_fld (pv 7) rfl))))))) pss_nil))))
      (pss_one (ps_ret (call_c T.mk_Folded G_Folded_init (hr.mono (by omega)) rfl T.g_Folded pass0 (pa_cons (pv 3) (pa_cons (pv 4) (pa_cons (pv 5) (pa_cons (pv 2) pa_nil))))))))))), ?_⟩
  refine ⟨(by show 0 ≤ sizeLine; decide), fun r0 hr0 => ?_⟩
  have E1 : Ext G H (upd G r0 (.lst [])) (upd H r0 (.lst [])) none_ := Ext.new hS hr0
  refine ⟨_, rfl, fr, rfl, ⟨_, SqL.of (E1.same _ _ (hS _ _ h1))⟩, for_list (K := K) (a := fr) (xs := vs) (fun i σ H' => ∃ (v1 v2 v3 : Option V) (G' : Hp) (q : Addr), σ = [some (.ref fr), some (.ref fo), some (.int lf), some (.int (joined (fs.take i) val left).count), some (.ref q), some (.int ((joined (fs.take i) val left).best.getD .done).size), v1, v2, v3] ∧ Ext G H G' H' none_ ∧ RowAt A G' q ((joined (fs.take i) val left).best.getD .done))
    ⟨none, none, none, _, r0, by rw [List.take_zero]; rfl, E1, by rw [List.take_zero]; exact ⟨[], upd_same, rfl⟩⟩ ?_ ?_ ?_⟩
  · rintro i σ H' _ ⟨v1, v2, v3, G', q, rfl, X1, _⟩
    exact SqL.of (X1.same _ _ (hS _ _ h1))
  · rintro i y σ H' hi ⟨v1, v2, v3, G', q, rfl, X1, W1⟩
    obtain ⟨x, hx, F0⟩ := a1.get hi
    have hm : x ∈ fs := List.mem_of_getElem? hx
    obtain ⟨⟨w1, w2⟩, y1, y2⟩ := hfs x hm
    have step := joined_take (behind := val) (left := left) hx
    have gacc : Good (joined (fs.take i) val left) := good_joined fun z hz => by
      have hz' := hfs z (List.mem_of_mem_take hz)
      exact ⟨hz'.2.1, (hval _ (by omega)).1⟩
    generalize joined (fs.take i) val left = acc at step W1 gacc
    obtain ⟨p1, dx1, q1, rfl, f1, R1⟩ := F0.mono X1.mono
    obtain ⟨v, hv, F2⟩ := hT.2 (left - x.width) (by omega)
    obtain ⟨gb, zb⟩ := hval (left - x.width) (by omega)
    obtain ⟨p2, dx2, q2, rfl, f2, R2⟩ := F2.mono X1.mono
    rw [step]
    -- behind = folded[left - first.width]
    refine ⟨_, rfl, _, rfl, _, rfl, p1, _, dx1, _, _, rfl, X1.sub _ _ f1, T.cl_Folded, T.na_Folded_width, fo_width, _, _, rfl, rfl, fo, ws, _, .ref p2, rfl, rfl, SqL.of (X1.same _ _ hfo), atI_ok (by omega) (by rw [← hv]; congr 1; omega), ?_⟩
    -- if behind.ways > 0
    refine ⟨_, rfl, p2, _, dx2, _, _, rfl, X1.sub _ _ f2, T.cl_Folded, T.na_Folded_ways, fo_ways, _, _, rfl, rfl, _, rfl, ?_⟩
    refine if_dec (fun c => ?_) (fun c => ?_)
    · have hc : (val (left - x.width)).count ≠ 0 := by omega
      obtain ⟨bp, hb⟩ := good_some gb hc
      have hbs := zb bp hb
      rw [hb, Option.getD_some] at R2 f2
      have cb : (comb x (val (left - x.width))).best = some (x.piece.cons bp) := by
        show (val (left - x.width)).best.map x.piece.cons = _
        rw [hb]
        rfl
      have esz : ((x.folded.best.getD .done).size + bp.size : Nat) = (x.piece.cons bp).size := by
        show (x.piece.cons .done).size + bp.size = _
        rw [size_one, size_cons]
      have win : acc.count = 0 ∨ (x.piece.cons bp).size < (acc.best.getD .done).size → (Vamacb.orElse acc (comb x (val (left - x.width)))).best = some (x.piece.cons bp) := fun z => by
        by_cases c0 : acc.count = 0
        · rw [good_none gacc c0, nothing_orElse]
          exact cb
        · obtain ⟨ap, ha⟩ := good_some gacc c0
          rw [orElse_best ha cb]
          rcases z with z | z
          · exact absurd z c0
          · rw [ha] at z
            exact if_pos z
      have lose : acc.count ≠ 0 → ¬ (x.piece.cons bp).size < (acc.best.getD .done).size → (Vamacb.orElse acc (comb x (val (left - x.width)))).best = acc.best := fun c0 z => by
        obtain ⟨ap, ha⟩ := good_some gacc c0
        rw [orElse_best ha cb, ha]
        rw [ha] at z
        exact if_neg z
      have ecount : ((Vamacb.orElse acc (comb x (val (left - x.width)))).count : Int) = (acc.count : Int) + (x.ways : Int) * ((val (left - x.width)).count : Int) := by
        show ((acc.count + x.ways * (val (left - x.width)).count : Nat) : Int) = _
        rw [Int.natCast_add, Int.natCast_mul]
      obtain ⟨vs1, g1, b1⟩ := row_to R1
      obtain ⟨vs2, g2, b2⟩ := row_to R2
      -- pieces = first.pieces + behind.pieces
      refine ⟨_, rfl, p1, _, dx1, _, _, rfl, X1.sub _ _ f1, T.cl_Folded, T.na_Folded_pieces, fo_pieces, _, rfl, p2, _, dx2, _, _, rfl, X1.sub _ _ f2, T.cl_Folded, T.na_Folded_pieces, fo_pieces, _, _, rfl, rfl, ?_⟩
      refine ⟨_, rfl, rfl, _, rfl, if_dec (fun c0 => iteT ?_) (fun c0 => ⟨_, rfl, _, rfl, _, _, rfl, rfl, _, rfl, if_dec (fun c1 => ?_) (fun c1 => ?_)⟩)⟩
      rotate_left 2
      · -- the row stays
        refine ⟨_, rfl, _, rfl, p1, _, dx1, _, _, rfl, X1.sub _ _ f1, T.cl_Folded, T.na_Folded_ways, fo_ways, _, rfl, p2, _, dx2, _, _, rfl, X1.sub _ _ f2, T.cl_Folded, T.na_Folded_ways, fo_ways, _, _, rfl, rfl, .inl ⟨by show -(2 ^ 64) < (x.ways : Int); omega, by show (x.ways : Int) < 2 ^ 64; omega⟩, _, _, rfl, rfl, ?_⟩
        have ea : acc.count ≠ 0 := fun z => c0 (by rw [z]; rfl)
        have el := lose ea (by rw [← esz]; omega)
        refine ⟨some (.ref p1), some (.ref p2), some (.int (((x.folded.best.getD .done).size : Int) + (bp.size : Int))), G', q, ?_, X1, by rw [el]; exact W1⟩
        rw [el, ecount]
        rfl
      all_goals
        have ew := win (by first | exact .inl (by have z := V.int.inj c0; omega) | exact .inr (by rw [← esz]; omega))
        have hl1 := b1.length
        have hl2 := b2.length
        have hl3 := pieces_le bp
        have e1 : (pieces (x.folded.best.getD .done)) = [x.piece] := pieces_cons _ _
        -- row = first.row + behind.row
        refine ⟨_, rfl, p1, _, dx1, _, _, rfl, X1.sub _ _ f1, T.cl_Folded, T.na_Folded_row, fo_row, _, rfl, p2, _, dx2, _, _, rfl, X1.sub _ _ f2, T.cl_Folded, T.na_Folded_row, fo_row, q1, q2, vs1, vs2, rfl, rfl, X1.sub _ _ g1, X1.sub _ _ g2, small (by rw [hl1, hl2, e1]; show 1 + (pieces bp).length ≤ 1000; omega), fun t ht => ?_⟩
        have X2 := X1.trans (Ext.new (o := .lst (vs1 ++ vs2)) X1.sub ht)
        have s2 : Same G' (upd G' t (.lst (vs1 ++ vs2))) := same_new (X1.sub.free ht)
        -- fewest = pieces; ways = ways + first.ways * behind.ways
        refine ⟨_, rfl, _, rfl, _, rfl, p1, _, dx1, _, _, rfl, X2.sub _ _ (s2 _ _ f1), T.cl_Folded, T.na_Folded_ways, fo_ways, _, rfl, p2, _, dx2, _, _, rfl, X2.sub _ _ (s2 _ _ f2), T.cl_Folded, T.na_Folded_ways, fo_ways, _, _, rfl, rfl, .inl ⟨by show -(2 ^ 64) < (x.ways : Int); omega, by show (x.ways : Int) < 2 ^ 64; omega⟩, _, _, rfl, rfl, ?_⟩
        refine ⟨some (.ref p1), some (.ref p2), some (.int (((x.folded.best.getD .done).size : Int) + (bp.size : Int))), _, t, ?_, X2, ?_⟩
        · rw [ew, ecount, Option.getD_some, ← esz, Int.natCast_add]
          rfl
        · rw [ew]
          show RowAt A _ t (x.piece.cons bp)
          have pc := pieces_cons x.piece bp
          have a3 : All2 (PieceAt A (upd G' t (.lst (vs1 ++ vs2)))) (vs1 ++ vs2) (pieces (x.piece.cons bp)) := by
            rw [pc]
            rw [e1] at b1
            exact (b1.pieces s2).append (b2.pieces s2)
          have a4 := row_from (q := t) upd_same a3
          rw [of_pieces] at a4
          exact a4
    · have hc : (val (left - x.width)).count = 0 := by omega
      have e : comb x (val (left - x.width)) = Vamacb.nothing := by
        rw [good_none gb hc]
        rfl
      rw [e, orElse_nothing]
      exact ⟨_, _, _, G', q, rfl, X1, W1⟩
  · rintro σ H' ⟨v1, v2, v3, G', q, rfl, X1, W1⟩
    rw [a1.length, List.take_of_length_le (Nat.le_refl _)] at W1 ⊢
    refine ⟨_, rfl, _, rfl, _, rfl, _, rfl, fun x dx nx nd ne => made_of (ws := [.int (joined fs val left).count, .ref q, .int ((joined fs val left).best.getD .done).size, .int lf]) rfl ⟨rfl, ?_⟩⟩
    refine kQ _ _ _ (X1.trans (Ext.made X1.sub nx nd)) ⟨x, dx, q, rfl, ?_, W1.mono (same_new (X1.sub.free nx))⟩
    rw [upd_same, hlf]
    rfl

/-! ### a stretch -/
def spStretch (A : Ad) (f : Nat) : Sp := fun vs H Q _ => ∃ (G : Hp) (sa : Addr) (ds : List Deed) (st len rds : Nat), vs = [.ref sa] ∧ Same G H ∧ StretchAt A G sa ds st len rds f ∧ Fit ds st len rds ∧
  ∀ (G' H' : Hp) (v : V), Ext G H G' H' none_ → FoldedAt A G' v (Vamacb.fold f (roundsOf ds st len rds)) len → Q v H'
def spLoopCh (A : Ad) (f : Nat) : Sp := fun vs H Q _ => ∃ (G : Hp) (sa : Addr) (pl lf : Int) (ds : List Deed) (st len rds p left : Nat), vs = [.ref sa, .int pl, .int lf] ∧ pl = ((st + p : Nat) : Int) ∧ lf = (left : Nat) ∧ p + left = len ∧ Same G H ∧ StretchAt A G sa ds st len rds f ∧ Fit ds st len rds ∧
  ∀ (G' H' : Hp) (r : Addr), Ext G H G' H' none_ → FirstsAt A G' r (loopFirsts f (roundsOf ds st len rds) len p) → Q (.ref r) H'
theorem choices_zero {k : Nat} (T : Txt K mg A) (hk : 2 ≤ k) : Okf P w K mg base CX0 (k + 1) A.f_loop_choices ["stretch", "place", "left"] (spLoopCh A 0) := by
  have G_is_same_each_round := ok_is_same (P := P) (w := w) (base := base) T
  have G_Stretch_init := ok_Stretch_init (P := P) (w := w) (base := base) T
  have G_Folded_init := ok_Folded_init (P := P) (w := w) (base := base) T
  have G_LoopPiece_init := ok_LoopPiece_init (P := P) (w := w) (base := base) T
  have G_fold_stretch : Okf P w K mg base CX0 k A.f_fold_stretch ["stretch"] (fun _ _ _ _ => False) := Okf.none_ T.d_fold_stretch fun _ _ _ _ z => z
  obtain ⟨fd, F, b⟩ := T.d_loop_choices
  refine ⟨fd, F.ok sc_loop_choices (fun vs H Q E h => ?_) (fun cdv AA outer s H vs Q E hr h => ?_), b, F.kp⟩
  · obtain ⟨G, sa, pl, lf, ds, st, len, rds, p, left, rfl, _⟩ := h
    rfl
  obtain ⟨G, sa, pl, lf, ds, st, len, rds, p, left, rfl, hpl, hlf, hp, hS, ⟨dx, l, h1, D1⟩, hF, kQ⟩ := h
  refine ⟨_, (pss_cons (ps_set (i := 3) sc_loop_choices.nd rfl (Or.inl rfl) (pe_lst pa_nil))
      (pss_cons (ps_if (pt_cmpR op_eq (pe_fld (pv 0) rfl) pe_int (nomark _)) (pss_one (ps_ret (pv 3))) pss_nil)
      (pss_cons (ps_for PassesOwn.never rfl (pi_range2 rfl T.z_range (pa_cons pe_int (pa_cons (pe_op op_add (pe_op op_fdiv (pv 2) pe_int) pe_int) pa_nil))) (pg_name (i := 4) sc_loop_choices.nd rfl (Or.inl rfl)) (pss_one (ps_for PassesOwn.never rfl (pi_range2 rfl T.z_range (pa_cons pe_int (pa_cons (pe_op op_add (pe_callB (call_min2 rfl) (by rfl) T.z_min (by decide +kernel) (pa_cons (pe_glob (v := V.int 9) rfl T.i_MOST_ROUNDS.choose_spec ⟨_, rfl⟩) (pa_cons (pe_op op_fdiv (pv 2) (pv 4)) pa_nil))) pe_int) pa_nil))) (pg_name (i := 5) sc_loop_choices.nd rfl (Or.inl rfl)) (pss_one (ps_if (pt_val (call_f G_is_same_each_round (hr.mono (by omega)) rfl T.g_is_same_each_round pass0 (pa_cons (pv 0) (pa_cons (pv 1) (pa_cons (pe_op op_mul (pv 4) (pv 5)) pa_nil))))) (pss_cons (ps_set (i := 6) sc_loop_choices.nd rfl (Or.inl rfl) (call_f G_fold_stretch (hr.mono (by omega)) rfl T.g_fold_stretch pass0 (pa_cons (call_c T.mk_Stretch G_Stretch_init (hr.mono (by omega)) rfl T.g_Stretch pass0 (pa_cons (pe_fld (pv 0) rfl) (pa_cons (pv 1) (pa_cons (pv 4) (pa_cons (pv 5) (pa_cons (pe_op op_sub (pe_fld (pv 0) rfl) pe_int) pa_nil)))))) pa_nil)))
      (pss_one (ps_if (pt_cmpR op_gt (pe_fld (pv 6) rfl) pe_int (nomark _)) (pss_cons (ps_set (i := 7) sc_loop_choices.nd rfl (Or.inl rfl) (call_c T.mk_LoopPiece G_LoopPiece_init (hr.mono (by omega)) rfl T.g_LoopPiece pass0 (pa_cons (pv 5) (pa_cons (pe_fld (pv 6) rfl) pa_nil))))
      (pss_one (ps_expr (pe_bm PySem.F.plainAttrs_list PySem.F.slot_list_append PySem.F.type_list_append mt_append (pv 3) (pa_cons (call_c T.mk_Folded G_Folded_init (hr.mono (by omega)) rfl T.g_Folded pass0 (pa_cons (pe_fld (pv 6) rfl) (pa_cons (pe_lst (pa_cons (pv 7) pa_nil)) (pa_cons (pe_op op_add (pe_fld (pv 6) rfl) pe_int) (pa_cons (pe_op op_mul (pv 4) (pv 5)) pa_nil))))) pa_nil))))) pss_nil))) pss_nil)))))
      (pss_one (ps_ret (pv 3)))))), ?_⟩
  refine ⟨(by show 0 ≤ sizeLine; decide), fun r hr' => ?_⟩
  have E1 : Ext G H (upd G r (.lst [])) (upd H r (.lst [])) none_ := Ext.new hS hr'
  refine ⟨_, rfl, sa, _, dx, _, _, rfl, E1.same _ _ (hS _ _ h1), T.cl_Stretch, T.na_Stretch_deep, st_deep, rfl, _, rfl, ?_⟩
  refine if_true_of (by decide) ?_
  exact ⟨_, rfl, kQ _ _ r E1 ⟨[], upd_same, .nil⟩⟩
/-- lengths and rounds gone through -/
theorem prefix_loops {left i j : Nat} (hi : i < left / 2) (hj : j ≤ min 9 (left / (i + 1)) + 1 - 2) : ∃ b, loopsBy left = (((List.range i).flatMap fun i => (List.range (min 9 (left / (i + 1)) + 1 - 2)).map fun j => (i + 1, j + 2)) ++ (List.range j).map fun j => (i + 1, j + 2)) ++ b := by
  have e : List.range (left / 2) = List.range i ++ (i :: (List.range (left / 2)).drop (i + 1)) := by
    have h := List.take_append_drop i (List.range (left / 2))
    rw [List.drop_eq_getElem_cons (by rw [List.length_range]; exact hi), List.getElem_range, List.take_range, Nat.min_eq_left (by omega)] at h
    exact h.symm
  have e2 : (List.range (min 9 (left / (i + 1)) + 1 - 2)).map (fun j => (i + 1, j + 2)) = (List.range j).map (fun j => (i + 1, j + 2)) ++ ((List.range (min 9 (left / (i + 1)) + 1 - 2)).drop j).map fun j => (i + 1, j + 2) := by
    rw [← List.map_append]
    have h := List.take_append_drop j (List.range (min 9 (left / (i + 1)) + 1 - 2))
    rw [List.take_range, Nat.min_eq_left hj] at h
    rw [h]
  unfold loopsBy
  rw [e, List.flatMap_append, List.flatMap_cons, e2]
  exact ⟨_, by rw [List.append_assoc, List.append_assoc]⟩
theorem range_map_succ {β : Type} (f : Nat → β) (j : Nat) : (List.range (j + 1)).map f = (List.range j).map f ++ [f j] := by
  rw [List.range_succ, List.map_append]
  rfl
theorem choices_step {f k : Nat} (T : Txt K mg A) (hk : 2 ≤ k) (G_fold_stretch : Okf P w K mg base CX0 k A.f_fold_stretch ["stretch"] (spStretch A f)) : Okf P w K mg base CX0 (k + 1) A.f_loop_choices ["stretch", "place", "left"] (spLoopCh A (f + 1)) := by
  have G_is_same_each_round := ok_is_same (P := P) (w := w) (base := base) T
  have G_Stretch_init := ok_Stretch_init (P := P) (w := w) (base := base) T
  have G_Folded_init := ok_Folded_init (P := P) (w := w) (base := base) T
  have G_LoopPiece_init := ok_LoopPiece_init (P := P) (w := w) (base := base) T
  obtain ⟨fd, F, b⟩ := T.d_loop_choices
  refine ⟨fd, F.ok sc_loop_choices (fun vs H Q E h => ?_) (fun cdv AA outer s H vs Q E hr h => ?_), b, F.kp⟩
  · obtain ⟨G, sa, pl, lf, ds, st, len, rds, p, left, rfl, _⟩ := h
    rfl
  obtain ⟨G, sa, pl, lf, ds, st, len, rds, p, left, rfl, hpl, hlf, hp, hS, ⟨dx, l, h1, D1⟩, hF, kQ⟩ := h
  refine ⟨_, (pss_cons (ps_set (i := 3) sc_loop_choices.nd rfl (Or.inl rfl) (pe_lst pa_nil))
      (pss_cons (ps_if (pt_cmpR op_eq (pe_fld (pv 0) rfl) pe_int (nomark _)) (pss_one (ps_ret (pv 3))) pss_nil)
      (pss_cons (ps_for PassesOwn.never rfl (pi_range2 rfl T.z_range (pa_cons pe_int (pa_cons (pe_op op_add (pe_op op_fdiv (pv 2) pe_int) pe_int) pa_nil))) (pg_name (i := 4) sc_loop_choices.nd rfl (Or.inl rfl)) (pss_one (ps_for PassesOwn.never rfl (pi_range2 rfl T.z_range (pa_cons pe_int (pa_cons (pe_op op_add (pe_callB (call_min2 rfl) (by rfl) T.z_min (by decide +kernel) (pa_cons (pe_glob (v := V.int 9) rfl T.i_MOST_ROUNDS.choose_spec ⟨_, rfl⟩) (pa_cons (pe_op op_fdiv (pv 2) (pv 4)) pa_nil))) pe_int) pa_nil))) (pg_name (i := 5) sc_loop_choices.nd rfl (Or.inl rfl)) (pss_one (ps_if (pt_val (call_f G_is_same_each_round (hr.mono (by omega)) rfl T.g_is_same_each_round pass0 (pa_cons (pv 0) (pa_cons (pv 1) (pa_cons (pe_op op_mul (pv 4) (pv 5)) pa_nil))))) (pss_cons (ps_set (i := 6) sc_loop_choices.nd rfl (Or.inl rfl) (call_f G_fold_stretch (hr.mono (by omega)) rfl T.g_fold_stretch pass0 (pa_cons (call_c T.mk_Stretch G_Stretch_init (hr.mono (by omega)) rfl T.g_Stretch pass0 (pa_cons (pe_fld (pv 0) rfl) (pa_cons (pv 1) (pa_cons (pv 4) (pa_cons (pv 5) (pa_cons (pe_op op_sub (pe_fld (pv 0) rfl) pe_int) pa_nil)))))) pa_nil)))
      (pss_one (ps_if (pt_cmpR op_gt (pe_fld (pv 6) rfl) pe_int (nomark _)) (pss_cons (ps_set (i := 7) sc_loop_choices.nd rfl (Or.inl rfl) (call_c T.mk_LoopPiece G_LoopPiece_init (hr.mono (by omega)) rfl T.g_LoopPiece pass0 (pa_cons (pv 5) (pa_cons (pe_fld (pv 6) rfl) pa_nil))))
      (pss_one (ps_expr (pe_bm PySem.F.plainAttrs_list PySem.F.slot_list_append PySem.F.type_list_append mt_append (pv 3) (pa_cons (call_c T.mk_Folded G_Folded_init (hr.mono (by omega)) rfl T.g_Folded pass0 (pa_cons (pe_fld (pv 6) rfl) (pa_cons (pe_lst (pa_cons (pv 7) pa_nil)) (pa_cons (pe_op op_add (pe_fld (pv 6) rfl) pe_int) (pa_cons (pe_op op_mul (pv 4) (pv 5)) pa_nil))))) pa_nil))))) pss_nil))) pss_nil)))))
      (pss_one (ps_ret (pv 3)))))), ?_⟩
  have hlen := hF.len
  have hfit := hF.fit
  have hfew := hF.few
  have hnine := hF.nine
  have hone := hF.one
  have l14 : len ≤ 14 := by omega
  have eloops : loopFirsts (f + 1) (roundsOf ds st len rds) len p = (loopsBy left).filterMap (loopFirst f (roundsOf ds st len rds) p) := by
    show (Vamacb.loopsAt len p).filterMap _ = _
    rw [loopsAt_by len (by omega) p (by omega), show len - p = left by omega]
  have few : ∀ (a : List (Nat × Nat)), (∃ b, loopsBy left = a ++ b) → a.length ≤ 63 := fun a ⟨b, e⟩ => by
    have h := loops_few len (by omega) p (by omega)
    rw [loopsAt_by len (by omega) p (by omega), show len - p = left by omega, e, List.length_append] at h
    omega
  refine ⟨(by show 0 ≤ sizeLine; decide), fun r hr' => ?_⟩
  have gr : G r = none := hS.free hr'
  have E1 : Ext G H G (upd H r (.lst [])) none_ := Ext.open_ hS hr'
  refine ⟨_, rfl, sa, _, dx, _, _, rfl, E1.sub _ _ h1, T.cl_Stretch, T.na_Stretch_deep, st_deep, rfl, _, rfl, ?_⟩
  refine if_false_of (decide_eq_false fun z => by have := V.int.inj z; omega) ?_
  -- for length in range(1, left // 2 + 1)
  refine ⟨_, rfl, _, _, rfl, rfl, ⟨by decide, by decide⟩, _, _, rfl, rfl, 1, _, rfl, ⟨by decide, by decide, by omega, by omega⟩, for_range (lo := 1) (n := (lf / 2 + 1 - 1).toNat) (fun i σ H' => ∃ (v1 v2 v3 v4 : Option V) (G' : Hp) (vs : List V), σ = [some (.ref sa), some (.int pl), some (.int lf), some (.ref r), v1, v2, v3, v4] ∧ Ext G H G' H' none_ ∧ G' r = none ∧ H' r = some (.lst vs) ∧
      All2 (FirstAt A G') vs (((List.range i).flatMap fun i => (List.range (min 9 (left / (i + 1)) + 1 - 2)).map fun j => (i + 1, j + 2)).filterMap (loopFirst f (roundsOf ds st len rds) p)))
    ⟨none, none, none, none, G, [], rfl, E1, gr, upd_same, .nil⟩ ?_ ?_⟩
  · rintro i σ H' hi ⟨v1, v2, v3, v4, G', vs, rfl, X1, g1, hr1, a1⟩
    have hi2 : i < left / 2 := by omega
    have hm1 : 1 + (i : Int) = ((i + 1 : Nat) : Int) := by omega
    have hdiv : lf / (1 + (i : Int)) = ((left / (i + 1) : Nat) : Int) := by
      rw [hlf, hm1]
      rfl
    have hmin : (if lf / (1 + (i : Int)) < 9 then lf / (1 + (i : Int)) else 9) = ((min 9 (left / (i + 1)) : Nat) : Int) := by
      rw [hdiv]
      split <;> omega
    have bd1 : -(2 ^ 62) ≤ ((min 9 (left / (i + 1)) : Nat) : Int) + 1 := by
      generalize min 9 (left / (i + 1)) = mm
      omega
    have bd2 : ((min 9 (left / (i + 1)) : Nat) : Int) + 1 < 2 ^ 62 := by
      have z := Nat.min_le_left 9 (left / (i + 1))
      generalize min 9 (left / (i + 1)) = mm at z
      omega
    -- for rounds in range(2, min(MOST_ROUNDS, left // length) + 1)
    refine ⟨_, rfl, _, rfl, _, _, rfl, rfl, ⟨by omega, by omega⟩, _, _, rfl, _, _, rfl, rfl, 2, _, rfl, ⟨by decide, by decide, by rw [hmin]; exact bd1, by rw [hmin]; exact bd2⟩, ?_⟩
    rw [hmin]
    refine for_range (lo := 2) (n := (((min 9 (left / (i + 1)) : Nat) : Int) + 1 - 2).toNat) (fun j σ H2 => ∃ (v2 v3 v4 : Option V) (G2 : Hp) (vs2 : List V), σ = [some (.ref sa), some (.int pl), some (.int lf), some (.ref r), some (.int (1 + (i : Int))), v2, v3, v4] ∧ Ext G H G2 H2 none_ ∧ G2 r = none ∧ H2 r = some (.lst vs2) ∧
      All2 (FirstAt A G2) vs2 ((((List.range i).flatMap fun i => (List.range (min 9 (left / (i + 1)) + 1 - 2)).map fun j => (i + 1, j + 2)) ++ (List.range j).map fun j => (i + 1, j + 2)).filterMap (loopFirst f (roundsOf ds st len rds) p)))
      ⟨v2, v3, v4, G', vs, rfl, X1, g1, hr1, by rw [List.range_zero, List.map_nil, List.append_nil]; exact a1⟩ ?_ ?_
    · rintro j σ H2 hj ⟨v5, v6, v7, G2, vs2, rfl, X2, g2, hr2, a2⟩
      have hj2 : j < min 9 (left / (i + 1)) + 1 - 2 := by omega
      have hw : (i + 1) * (j + 2) ≤ left := by
        have q1 : j + 2 ≤ left / (i + 1) := by omega
        have q2 := Nat.mul_le_mul_left (i + 1) q1
        have q3 := Nat.mul_div_le left (i + 1)
        omega
      have hin : p + (i + 1) * (j + 2) ≤ len := by omega
      have ewi : (1 + (i : Int)) * (2 + (j : Int)) = (((i + 1) * (j + 2) : Nat) : Int) := by
        rw [Int.natCast_mul, Int.natCast_add, Int.natCast_add, Int.add_comm, Int.add_comm 2]
        rfl
      have h1' := X2.mono _ _ h1
      have D1' := D1.mono X2.mono
      obtain ⟨ia1, ia2⟩ := innerAt_eq (m := i + 1) (k := j + 2) hone hfit hin
      rw [range_map_succ, ← List.append_assoc, List.filterMap_append]
      have one : List.filterMap (loopFirst f (roundsOf ds st len rds) p) [(i + 1, j + 2)] = (loopFirst f (roundsOf ds st len rds) p (i + 1, j + 2)).toList := by
        rw [List.filterMap_cons, List.filterMap_nil]
        cases loopFirst f (roundsOf ds st len rds) p (i + 1, j + 2) <;> rfl
      rw [one]
      -- if is_same_each_round(stretch, place, length * rounds)
      refine ⟨_, rfl, _, rfl, _, rfl, _, rfl, _, _, rfl, rfl, .inl ⟨by omega, by omega⟩, G2, sa, pl, _, ds, st, len, rds, f + 1, st + p, (i + 1) * (j + 2), rfl, hpl, ewi, X2.sub, ⟨dx, l, h1', D1'⟩, hF, by omega, by omega, fun H3 X3 => ⟨fun same => ?_, fun same => ?_⟩⟩
      · refine ⟨_, rfl, iteT ?_⟩
        have ei := ia1 same
        have Xs : Ext G H G2 H3 none_ := X2.trans X3
        -- body = fold_stretch(Stretch(stretch.deeds, place, length, rounds, stretch.deep - 1))
        refine ⟨_, rfl, sa, _, dx, _, _, rfl, X3.sub _ _ h1', T.cl_Stretch, T.na_Stretch_deeds, st_deeds, _, rfl, _, rfl, _, rfl, _, rfl, sa, _, dx, _, _, rfl, X3.sub _ _ h1', T.cl_Stretch, T.na_Stretch_deep, st_deep, _, _, rfl, rfl, fun x dx3 nx nd ne => made_of (ws := [.ref l, .int pl, .int (1 + (i : Int)), .int (2 + (j : Int)), .int (((f + 1 : Nat) : Int) - 1)]) rfl ⟨rfl, ?_⟩⟩
        have Y1 := Ext.made (M := none_) (C := A.c_Stretch) (fs := (["deeds", "start", "length", "rounds", "deep"] : List Str).zip [.ref l, .int pl, .int (1 + (i : Int)), .int (2 + (j : Int)), .int (((f + 1 : Nat) : Int) - 1)]) X3.sub nx nd
        have sG := Y1.mono
        refine ⟨_, x, ds, st + p, i + 1, j + 2, rfl, Y1.sub, ⟨dx3, l, ?_, D1'.mono sG⟩, ⟨hfew, by omega, by omega, ?_⟩, fun G4 H4 v4 x4 F4 => ?_⟩
        · rw [upd_same, hpl, hm1, show 2 + (j : Int) = ((j + 2 : Nat) : Int) by omega, show ((f + 1 : Nat) : Int) - 1 = ((f : Nat) : Int) by omega]
          rfl
        · have q := mul_fit (p := len) (j := 0) hfit (by omega) (Nat.le_refl _)
          rw [Nat.mul_comm (j + 2)]
          omega
        have X4 : Ext G H G4 H4 none_ := (Xs.trans Y1).trans x4
        have r4 : H4 r = some (.lst vs2) := (Y1.trans x4).same _ _ (X3.same _ _ hr2)
        have g4 : G4 r = none := (Y1.trans x4).fresh _ _ (X3.same _ _ hr2) g2
        have a4 : All2 (FirstAt A G4) vs2 _ := a2.firsts (sG.trans x4.mono)
        obtain ⟨pb, db, qb, rfl, fb, Rb⟩ := F4
        -- if body.ways > 0
        refine ⟨_, rfl, pb, _, db, _, _, rfl, x4.sub _ _ fb, T.cl_Folded, T.na_Folded_ways, fo_ways, _, _, rfl, rfl, _, rfl, ?_⟩
        have gf := good_fold f (roundsOf ds (st + p) (i + 1) (j + 2))
        refine if_dec (fun c => ?_) (fun c => ?_)
        · obtain ⟨bp, hb⟩ := good_some gf (by omega)
          have elf : loopFirst f (roundsOf ds st len rds) p (i + 1, j + 2) = some ⟨(Vamacb.fold f (roundsOf ds (st + p) (i + 1) (j + 2))).count, .times (j + 2) bp, (i + 1) * (j + 2)⟩ := by
            unfold loopFirst
            simp only [ei, hb]
          rw [elf]
          rw [hb] at fb Rb
          generalize (Vamacb.fold f (roundsOf ds (st + p) (i + 1) (j + 2))).count = cnt at fb elf ⊢
          -- loop = LoopPiece(rounds, body.row)
          refine ⟨_, rfl, _, rfl, pb, _, db, _, _, rfl, x4.sub _ _ fb, T.cl_Folded, T.na_Folded_row, fo_row, fun y dy ny ndy ney => made_of (ws := [.int (2 + (j : Int)), .ref qb]) rfl ⟨rfl, ?_⟩⟩
          have Y5 := Ext.made (M := none_) (C := A.c_LoopPiece) (fs := (["rounds", "row"] : List Str).zip [.int (2 + (j : Int)), .ref qb]) x4.sub ny ndy
          have X5 := X4.trans Y5
          have r5 := Y5.same _ _ r4
          -- choices.append(Folded(body.ways, [loop], body.pieces + 1, length * rounds))
          refine ⟨_, rfl, .inl ⟨rfl, _, SqL.of r5⟩, _, rfl, pb, _, db, _, _, rfl, Y5.sub _ _ (Y5.mono _ _ fb), T.cl_Folded, T.na_Folded_ways, fo_ways, _, rfl, (by show 1 ≤ sizeLine; decide), fun t ht => ?_⟩
          have Y6 := Ext.new (M := none_) (o := .lst [.ref y]) Y5.sub ht
          refine ⟨_, rfl, pb, _, db, _, _, rfl, Y6.sub _ _ (Y6.mono _ _ (Y5.mono _ _ fb)), T.cl_Folded, T.na_Folded_pieces, fo_pieces, _, _, rfl, rfl, _, rfl, _, rfl, _, _, rfl, rfl, .inl ⟨by omega, by omega⟩, fun z dz nz ndz nez => made_of (ws := [.int cnt, .ref t, .int (((Option.getD (some bp) Prog.done).size : Int) + 1), .int ((1 + (i : Int)) * (2 + (j : Int)))]) rfl ⟨rfl, ?_⟩⟩
          have Y7 := Ext.made (M := none_) (C := A.c_Folded) (fs := (["ways", "row", "pieces", "width"] : List Str).zip [.int cnt, .ref t, .int (((Option.getD (some bp) Prog.done).size : Int) + 1), .int ((1 + (i : Int)) * (2 + (j : Int)))]) Y6.sub nz ndz
          have Y57 := (Y5.trans Y6).trans Y7
          have r7 := Y57.same _ _ r4
          have g7 := Y57.fresh _ _ r4 g4
          have hlen2 := a2.length
          have hfl := List.length_filterMap_le (loopFirst f (roundsOf ds st len rds) p) (((List.range i).flatMap fun i => (List.range (min 9 (left / (i + 1)) + 1 - 2)).map fun j => (i + 1, j + 2)) ++ (List.range j).map fun j => (i + 1, j + 2))
          have hfew2 := few (((List.range i).flatMap fun i => (List.range (min 9 (left / (i + 1)) + 1 - 2)).map fun j => (i + 1, j + 2)) ++ (List.range j).map fun j => (i + 1, j + 2)) (prefix_loops hi2 (by omega))
          refine ⟨r, _, _, rfl, rfl, r7, small1000 (by omega), ?_⟩
          refine ⟨_, _, _, _, vs2 ++ [.ref z], rfl, (X4.trans Y57).put hr' g7, g7, upd_same, (a4.firsts Y57.mono).append (.one ?_)⟩
          refine ⟨z, dz, t, rfl, ?_, ⟨[.ref y], Y7.mono _ _ upd_same, ?_⟩⟩
          · rw [upd_same, ewi]
            show _ = some (HO.ins A.c_Folded dz (foF cnt t ((Piece.times (j + 2) bp).cons .done).size ((i + 1) * (j + 2))))
            rw [size_one]
            rfl
          · refine ⟨y, dy, qb, ?_⟩
            obtain ⟨wsb, hb1, hb2⟩ := Rb
            refine ⟨wsb, [], rfl, ?_, Y57.mono _ _ hb1, hb2.mono Y57.mono, rfl⟩
            have e := Y7.mono _ _ (Y6.mono _ _ (upd_same (H := G4) (a := y) (o := .ins A.c_LoopPiece dy ((["rounds", "row"] : List Str).zip [.int (2 + (j : Int)), .ref qb]))))
            exact e.trans (by rw [show ((j + 2 : Nat) : Int) = 2 + (j : Int) by omega]; rfl)
        · have hn : (Vamacb.fold f (roundsOf ds (st + p) (i + 1) (j + 2))).best = none := gf.mpr (by omega)
          have elf : loopFirst f (roundsOf ds st len rds) p (i + 1, j + 2) = none := by
            unfold loopFirst
            simp only [ei, hn]
          rw [elf]
          refine ⟨_, _, _, G4, vs2, rfl, X4, g4, r4, ?_⟩
          rw [Option.toList_none, List.append_nil]
          exact a4
      · refine ⟨_, rfl, iteF ?_⟩
        have elf : loopFirst f (roundsOf ds st len rds) p (i + 1, j + 2) = none := by
          unfold loopFirst
          simp only [ia2 same]
        rw [elf]
        refine ⟨_, _, _, G2, vs2, rfl, X2.trans X3, g2, X3.same _ _ hr2, ?_⟩
        rw [Option.toList_none, List.append_nil]
        exact a2
    · rintro σ H2 ⟨v5, v6, v7, G2, vs2, rfl, X2, g2, hr2, a2⟩
      refine ⟨_, _, _, _, G2, vs2, rfl, X2, g2, hr2, ?_⟩
      rw [range_flatMap_succ, show min 9 (left / (i + 1)) + 1 - 2 = (((min 9 (left / (i + 1)) : Nat) : Int) + 1 - 2).toNat by omega]
      exact a2
  · rintro σ H' ⟨v1, v2, v3, v4, G', vs, rfl, X1, g1, hr1, a1⟩
    refine ⟨_, rfl, ?_⟩
    refine kQ (upd G' r (.lst vs)) H' r (X1.seal hr' hr1 g1) ⟨vs, upd_same, ?_⟩
    rw [eloops]
    have e : (lf / 2 + 1 - 1).toNat = left / 2 := by omega
    rw [e] at a1
    exact a1.firsts (same_new g1)
end
end Lf

set_option Elab.async false
set_option linter.all false
set_option maxRecDepth 100000
set_option maxHeartbeats 4000000
/-! # A stretch folded, a recording folded -/
namespace Lf
open PySem PySem.Spec PyProof.Rows L2
open VamacBase (Deed Prog)
open Vamacb (Folded)

section
variable {P : Program} {w : World} {K : PySem.W.Frag} {mg : Str → Option Value} {base : Heap} {A : Ad}
theorem stretch_step {f k : Nat} (T : Txt K mg A) (hk : 4 ≤ k) (G_loop_choices : Okf P w K mg base CX0 k A.f_loop_choices ["stretch", "place", "left"] (spLoopCh A f)) : Okf P w K mg base CX0 (k + 1) A.f_fold_stretch ["stretch"] (spStretch A f) := by
  have G_Folded_init := ok_Folded_init (P := P) (w := w) (base := base) T
  have G_deed_choices := ok_deed_choices (P := P) (w := w) (base := base) T
  have G_fold_left := ok_fold_left (P := P) (w := w) (base := base) T
  obtain ⟨fd, F, b⟩ := T.d_fold_stretch
  refine ⟨fd, F.ok sc_fold_stretch (fun vs H Q E h => ?_) (fun cdv AA outer s H vs Q E hr h => ?_), b, F.kp⟩
  · obtain ⟨G, sa, ds, st, len, rds, rfl, _⟩ := h
    rfl
  obtain ⟨G, sa, ds, st, len, rds, rfl, hS, ⟨dx, l, h1, D1⟩, hF, kQ⟩ := h
  refine ⟨_, (pss_cons (ps_set (i := 1) sc_fold_stretch.nd rfl (Or.inl rfl) (pe_lst (pa_cons (call_c T.mk_Folded G_Folded_init (hr.mono (by omega)) rfl T.g_Folded pass0 (pa_cons pe_int (pa_cons (pe_lst pa_nil) (pa_cons pe_int (pa_cons pe_int pa_nil))))) pa_nil)))
      (pss_cons (ps_for PassesOwn.never rfl (pi_range2 rfl T.z_range (pa_cons pe_int (pa_cons (pe_op op_add (pe_fld (pv 0) rfl) pe_int) pa_nil))) (pg_name (i := 2) sc_fold_stretch.nd rfl (Or.inl rfl)) (pss_cons (ps_set (i := 3) sc_fold_stretch.nd rfl (Or.inl rfl) (pe_op op_sub (pe_op op_add (pe_fld (pv 0) rfl) (pe_fld (pv 0) rfl)) (pv 2)))
      (pss_cons (ps_set (i := 4) sc_fold_stretch.nd rfl (Or.inl rfl) (pe_op op_cat (call_f G_deed_choices (hr.mono (by omega)) rfl T.g_deed_choices pass0 (pa_cons (pv 0) (pa_cons (pv 3) pa_nil))) (call_f G_loop_choices (hr.mono (by omega)) rfl T.g_loop_choices pass0 (pa_cons (pv 0) (pa_cons (pv 3) (pa_cons (pv 2) pa_nil))))))
      (pss_one (ps_expr (pe_bm PySem.F.plainAttrs_list PySem.F.slot_list_append PySem.F.type_list_append mt_append (pv 1) (pa_cons (call_f G_fold_left (hr.mono (by omega)) rfl T.g_fold_left pass0 (pa_cons (pv 4) (pa_cons (pv 1) (pa_cons (pv 2) pa_nil)))) pa_nil)))))))
      (pss_one (ps_ret (pe_ix ix_list (pv 1) (pe_fld (pv 0) rfl) (fun _ _ => rfl)))))), ?_⟩
  have hlen := hF.len
  have hfit := hF.fit
  have hfew := hF.few
  have hone := hF.one
  generalize hrs : roundsOf ds st len rds = rs at kQ
  have hhead : (rs.headD []).length = len := by
    rw [← hrs]
    exact rounds_head hone hfit
  have efold : Vamacb.fold f rs = valAt f rs len len := by
    rw [fold_tab, hhead]
  rw [efold] at kQ
  -- folded = [Folded(1, [], 0, 0)]
  refine ⟨(by show 0 ≤ sizeLine; decide), fun t ht x dx0 nx nd ne => made_of (ws := [.int 1, .ref t, .int 0, .int 0]) rfl ⟨rfl, (by show 1 ≤ sizeLine; decide), fun fo hfo => ?_⟩⟩
  have E1 := Ext.new (M := none_) (o := .lst []) hS ht
  have E2 := E1.trans (Ext.made (C := A.c_Folded) (fs := foF 1 t 0 0) E1.sub nx nd)
  have E3 := E2.trans (Ext.open_ (o := .lst [.ref x]) E2.sub hfo)
  have nfo : H fo = none := E2.free hfo
  have tab0 : TabAt A (upd (upd G t (.lst [])) x (.ins A.c_Folded dx0 (foF 1 t 0 0))) [.ref x] (valAt f rs len) 1 := by
    refine ⟨rfl, fun i hi => ?_⟩
    have e : i = 0 := by omega
    subst e
    refine ⟨_, rfl, x, dx0, t, rfl, upd_same, ⟨[], same_new (E1.sub.free nx) _ _ upd_same, rfl⟩⟩
  -- for left in range(1, stretch.length + 1)
  refine ⟨_, rfl, sa, _, dx, _, _, rfl, E3.sub _ _ (E3.mono _ _ h1), T.cl_Stretch, T.na_Stretch_length, st_length, _, _, rfl, rfl, 1, _, rfl, ⟨by decide, by decide, by omega, by omega⟩, for_range (lo := 1) (n := ((len : Int) + 1 - 1).toNat) (fun i σ H' => ∃ (v1 v2 v3 : Option V) (G' : Hp) (ws : List V), σ = [some (.ref sa), some (.ref fo), v1, v2, v3] ∧ Ext G H G' H' none_ ∧ G' fo = none ∧ H' fo = some (.lst ws) ∧ TabAt A G' ws (valAt f rs len) (i + 1))
    ⟨none, none, none, _, _, rfl, E3, E2.sub.free hfo, upd_same, tab0⟩ ?_ ?_⟩
  · rintro i σ H' hi ⟨v1, v2, v3, G', ws, rfl, X1, g1, hw1, t1⟩
    have hi' : i + 1 ≤ len := by omega
    have h1' := X1.mono _ _ h1
    have D1' := D1.mono X1.mono
    -- place = stretch.start + stretch.length - left
    refine ⟨_, rfl, sa, _, dx, _, _, rfl, X1.sub _ _ h1', T.cl_Stretch, T.na_Stretch_start, st_start, _, rfl, sa, _, dx, _, _, rfl, X1.sub _ _ h1', T.cl_Stretch, T.na_Stretch_length, st_length, _, _, rfl, rfl, _, rfl, _, _, rfl, rfl, ?_⟩
    -- firsts = deed_choices(stretch, place) + loop_choices(stretch, place, left)
    refine ⟨_, rfl, _, rfl, G', sa, _, ds, st, len, rds, f, len - (i + 1), rfl, by omega, X1.sub, ⟨dx, l, h1', D1'⟩, hF, by omega, fun G2 H2 r2 X2 F2 => ?_⟩
    have h2' := X2.mono _ _ h1'
    refine ⟨_, rfl, _, rfl, _, rfl, G2, sa, _, _, ds, st, len, rds, len - (i + 1), i + 1, rfl, by omega, by omega, by omega, X2.sub, ⟨dx, l, h2', D1'.mono X2.mono⟩, hF, fun G3 H3 r3 X3 F3 => ?_⟩
    rw [hrs] at F2 F3
    obtain ⟨ws2, f2, a2⟩ := F2
    obtain ⟨ws3, f3, a3⟩ := F3
    have l2 := a2.length
    have l3 := a3.length
    have few := firsts_few (f := f) (n := len) (p := len - (i + 1)) rs (by omega) (by omega)
    rw [firsts_split, List.length_append] at few
    refine ⟨r2, r3, ws2, ws3, rfl, rfl, X3.sub _ _ (X3.mono _ _ f2), X3.sub _ _ f3, small (by omega), fun t4 ht4 => ?_⟩
    have X23 := X2.trans X3
    have X4 := X23.trans (Ext.new (o := .lst (ws2 ++ ws3)) X23.sub ht4)
    have s4 : Same G3 (upd G3 t4 (.lst (ws2 ++ ws3))) := same_new (X23.sub.free ht4)
    have hw4 := X4.same _ _ hw1
    have g4 := X4.fresh _ _ hw1 g1
    have fsT : FirstsAt A (upd G3 t4 (.lst (ws2 ++ ws3))) t4 (firstsOf f rs len (len - (i + 1))) := by
      rw [firsts_split]
      exact ⟨_, upd_same, (a2.firsts (X3.mono.trans s4)).append (a3.firsts s4)⟩
    -- folded.append(fold_left(firsts, folded, left))
    refine ⟨_, rfl, .inl ⟨rfl, _, SqL.of hw4⟩, _, rfl, _, rfl, _, rfl, _, t4, fo, _, i + 1, firstsOf f rs len (len - (i + 1)), valAt f rs len, ws, rfl, by omega, X4.sub, fsT, hw4, t1.mono X4.mono, fun x hx => ⟨firsts_width hi' hx, firsts_ways (by omega) hx⟩, fun j hj => ⟨good_val (good_less f) rs len j j (Nat.le_refl _) (by omega), fun p hp => ?_⟩, fun G5 H5 v5 X5 F5 => ?_⟩
    · have := (val_fine f rs len j (by omega) p hp).1
      omega
    · rw [← val_succ (good_less f) hi'] at F5
      have g5 := X5.fresh _ _ hw4 g4
      have tl := t1.1
      refine ⟨fo, _, _, rfl, rfl, X5.same _ _ hw4, small1000 (by omega), ?_⟩
      exact ⟨_, _, _, G5, ws ++ [v5], rfl, ((X1.trans X4).trans X5).put nfo g5, g5, upd_same, (t1.mono (X4.mono.trans X5.mono)).more F5⟩
  · rintro σ H' ⟨v1, v2, v3, G', ws, rfl, X1, g1, hw1, t1⟩
    have e : ((len : Int) + 1 - 1).toNat = len := by omega
    rw [e] at t1
    obtain ⟨v, hv, F5⟩ := t1.2 len (Nat.lt_succ_self _)
    exact ⟨_, rfl, _, rfl, sa, _, dx, _, _, rfl, X1.sub _ _ (X1.mono _ _ h1), T.cl_Stretch, T.na_Stretch_length, st_length, fo, ws, _, v, rfl, rfl, SqL.of hw1, atI_nat hv, kQ G' H' v X1 F5⟩
theorem ok_choices (T : Txt K mg A) : ∀ f : Nat, Okf P w K mg base CX0 (2 * f + 4) A.f_loop_choices ["stretch", "place", "left"] (spLoopCh A f)
  | 0 => choices_zero T (by omega)
  | f + 1 => choices_step T (by omega) (stretch_step T (by omega) (ok_choices T f))
theorem ok_stretch (T : Txt K mg A) (f : Nat) : Okf P w K mg base CX0 (2 * f + 5) A.f_fold_stretch ["stretch"] (spStretch A f) := stretch_step T (by omega) (ok_choices T f)
def spFold (A : Ad) : Sp := fun vs H Q _ => ∃ (G : Hp) (l : Addr) (ds : List Deed), vs = [.ref l] ∧ Same G H ∧ DeedsAt G l ds ∧ ds.length ≤ 14 ∧
  ∀ (G' H' : Hp) (v : V), Ext G H G' H' none_ → FoldedAt A G' v (Vamacb.foldings ds) ds.length → Q v H'
theorem ok_fold (T : Txt K mg A) : Okf P w K mg base CX0 10 A.f_fold ["deeds"] (spFold A) := by
  have G_Stretch_init := ok_Stretch_init (P := P) (w := w) (base := base) T
  have G_fold_stretch := ok_stretch (P := P) (w := w) (base := base) T 2
  obtain ⟨fd, F, b⟩ := T.d_fold
  refine ⟨fd, F.ok sc_fold (fun vs H Q E h => ?_) (fun cdv AA outer s H vs Q E hr h => ?_), b, F.kp⟩
  · obtain ⟨G, l, ds, rfl, _⟩ := h
    rfl
  obtain ⟨G, l, ds, rfl, hS, ⟨ws, h1, a1⟩, hfew, kQ⟩ := h
  refine ⟨_, (pss_one (ps_ret (call_f G_fold_stretch (hr.mono (by omega)) rfl T.g_fold_stretch pass0 (pa_cons (call_c T.mk_Stretch G_Stretch_init (hr.mono (by omega)) rfl T.g_Stretch pass0 (pa_cons (pv 0) (pa_cons pe_int (pa_cons (pe_callB call_len_seq (by rfl) T.z_len PySem.boot_len (pa_cons (pv 0) pa_nil)) (pa_cons pe_int (pa_cons (pe_glob (v := V.int 2) rfl T.i_MOST_LOOPS_DEEP.choose_spec ⟨_, rfl⟩) pa_nil)))))) pa_nil)))), ?_⟩
  refine ⟨_, rfl, _, rfl, l, ws, rfl, .inl (SqL.of (hS _ _ h1)), fun x dx nx nd ne => made_of (ws := [.ref l, .int 0, .int (ws.length : Int), .int 1, .int 2]) rfl ⟨rfl, ?_⟩⟩
  have Y1 := Ext.made (M := none_) (C := A.c_Stretch) (fs := (["deeds", "start", "length", "rounds", "deep"] : List Str).zip [.ref l, .int 0, .int (ws.length : Int), .int 1, .int 2]) hS nx nd
  refine ⟨_, x, ds, 0, ds.length, 1, rfl, Y1.sub, ⟨dx, l, ?_, ⟨ws, Y1.mono _ _ h1, a1.deeds Y1.mono⟩⟩, ⟨hfew, Nat.le_refl _, by decide, by omega⟩, fun G2 H2 v2 X2 F2 => ?_⟩
  · rw [upd_same, a1.length]
    rfl
  · rw [rounds_one] at F2
    exact kQ G2 H2 v2 (Y1.trans X2) F2
end
end Lf

set_option Elab.async false
set_option linter.all false
set_option maxRecDepth 100000
set_option maxHeartbeats 4000000
/-! # The recording and its calls -/
namespace Lf
open PySem PySem.Spec PyProof.Rows L2
open VamacBase (Deed Prog readDeed readTimes readNat readListed whole)

/-! ### mathematics -/
theorem other_some {a b : List Deed} {i : Nat} (h : ∀ j, j < i → a[j]? = b[j]?) (n : a[i]? ≠ b[i]?) : Vamacb.firstOther a b = some i := by
  unfold Vamacb.firstOther
  rw [List.find?_range_eq_some]
  refine ⟨bne_iff_ne.mpr n, List.mem_range.mpr ?_, fun j hj => ?_⟩
  · show i < max a.length b.length
    by_cases c : i < max a.length b.length
    · exact c
    · exfalso
      have h1 : a.length ≤ i := by omega
      have h2 : b.length ≤ i := by omega
      exact n (by rw [List.getElem?_eq_none h1, List.getElem?_eq_none h2])
  · rw [h j hj]
    simp
theorem other_none (a : List Deed) : Vamacb.firstOther a a = none := by
  unfold Vamacb.firstOther
  rw [List.find?_eq_none]
  intro i _
  simp
theorem times_len {B : Type} {rd : VamacBase.Reader B} : ∀ {n : Nat} {x r : List Int} {l : List B}, readTimes rd n x = some (l, r) → l.length = n
  | 0, x, r, l, h => by
    cases h
    rfl
  | n + 1, x, r, l, h => by
    rw [readTimes] at h
    obtain ⟨u, hu, h2⟩ := Option.bind_eq_some_iff.mp h
    obtain ⟨v, hv, e⟩ := Option.map_eq_some_iff.mp h2
    cases e
    exact congrArg (· + 1) (times_len (l := v.1) (r := v.2) hv)
theorem listed_len {ns : List Int} {ds : List Deed} (h : whole (readListed 0 14 readDeed) ns = some ds) : ds.length ≤ 14 := by
  unfold whole at h
  split at h
  · rename_i u e
    cases h
    obtain ⟨n, hn, h2⟩ := Option.bind_eq_some_iff.mp (show ((readNat 0 14 ns).bind fun n => readTimes readDeed n.1 n.2) = some (ds, []) from e)
    have h3 := times_len h2
    have h4 := (readNat_some (n := n.1) (r := n.2) hn).2.2
    omega
  · cases h

theorem times_ok : ∀ {n : Nat} {x r : List Int} {l : List Deed}, readTimes readDeed n x = some (l, r) → ∀ d ∈ l, VamacBase.okDeed d = true
  | 0, x, r, l, h => by
    cases h
    intro d hd
    cases hd
  | n + 1, x, r, l, h => by
    rw [readTimes] at h
    obtain ⟨u, hu, h2⟩ := Option.bind_eq_some_iff.mp h
    obtain ⟨v, hv, e⟩ := Option.map_eq_some_iff.mp h2
    cases e
    intro d hd
    rcases List.mem_cons.mp hd with rfl | hd
    · exact readDeed_num (r := u.2) hu
    · exact times_ok (l := v.1) (r := v.2) hv d hd
theorem listed_ok {ns : List Int} {ds : List Deed} (h : whole (readListed 0 14 readDeed) ns = some ds) : ∀ d ∈ ds, VamacBase.okDeed d = true := by
  unfold whole at h
  split at h
  · rename_i u e
    cases h
    obtain ⟨n, hn, h2⟩ := Option.bind_eq_some_iff.mp (show ((readNat 0 14 ns).bind fun n => readTimes readDeed n.1 n.2) = some (ds, []) from e)
    exact times_ok h2
  · cases h
theorem whole_ok {ns : List Int} {d : Deed} (h : whole readDeed ns = some d) : VamacBase.okDeed d = true := by
  unfold whole at h
  split at h
  · rename_i u e
    cases h
    exact readDeed_num e
  · cases h

/-! ### the object -/
def recF (l : Addr) : List (Str × V) := [("deeds", .ref l)]
def RecAt (A : Ad) (H : Hp) (a l : Addr) (ds : List Deed) : Prop := ∃ (dx : Addr) (vs : List V), H a = some (.ins A.c_Recording dx (recF l)) ∧ H l = some (.lst vs) ∧ All2 (DeedAt H) vs ds ∧ ds.length ≤ 14 ∧ ∀ d ∈ ds, VamacBase.okDeed d = true
theorem RecAt.mono {A : Ad} {H H' : Hp} {a l : Addr} {ds : List Deed} (s : Same H H') : RecAt A H a l ds → RecAt A H' a l ds := fun ⟨dx, vs, h1, h2, h3, h4, h5⟩ => ⟨dx, vs, s _ _ h1, s _ _ h2, h3.deeds s, h4, h5⟩
/-- deeds stand over a change of what is no tuple -/
theorem deeds_upd {H : Hp} {p : Addr} {o o' : HO} {vs : List V} {ds : List Deed} (hp : H p = some o) (n : ∀ xs, o ≠ .tup xs) (h : All2 (DeedAt H) vs ds) : All2 (DeedAt (upd H p o')) vs ds := h.imp fun v d ⟨q, e, hq⟩ => ⟨q, e, by
  have : q ≠ p := fun z => by
    subst z
    rw [hp] at hq
    exact n _ (Option.some.inj hq)
  rw [upd_ne this]
  exact hq⟩
/-- what was tracked is tracked -/
def Live (H H' : Hp) : Prop := ∀ b o, H b = some o → ∃ o', H' b = some o'
theorem Live.of {H H' : Hp} (s : Same H H') : Live H H' := fun b o h => ⟨o, s b o h⟩
theorem Live.upd_ {H H' : Hp} {p : Addr} {x : HO} (h : Live H H') : Live H (upd H' p x) := fun b o e => by
  by_cases c : b = p
  · subst c
    exact ⟨x, upd_same⟩
  · rw [upd_ne c]
    exact h b o e
theorem Live.free {H H' : Hp} {t : Addr} (h : Live H H') (e : H' t = none) : H t = none := by
  cases q : H t with
  | none => rfl
  | some o =>
    obtain ⟨o', z⟩ := h t o q
    rw [e] at z
    cases z
/-- behind a call: the recording is so; all else stands -/
structure After (A : Ad) (H H' : Hp) (a l : Addr) (ds : List Deed) : Prop where
  keep : ∀ b o, H b = some o → b ≠ a → b ≠ l → H' b = some o
  live : Live H H'
  rec_ : ∃ l', RecAt A H' a l' ds ∧ (l' = l ∨ H l' = none)
theorem After.same {A : Ad} {H H' : Hp} {a l : Addr} {ds : List Deed} (s : Same H H') (r : RecAt A H a l ds) : After A H H' a l ds := ⟨fun b o h _ _ => s b o h, .of s, l, r.mono s, .inl rfl⟩
/-- the error for a refusal -/
def refusal (A : Ad) (l : List Int) : Option Addr := if l = [-1] then some A.c_NotWhole else if l = [-2] then some A.c_NoDeeds else if l = [-4] then some A.c_NotOnlyRounds else if l = [-6] then some A.c_FullRecording else if l = [-7] then some A.c_TellsTooMuch else none
theorem refusal_pos {A : Ad} {z : Int} {l : List Int} (h : 0 ≤ z) : refusal A (z :: l) = none := by
  have n : ∀ k : Int, k < 0 → ¬ (z :: l = [k]) := fun k hk e => by
    have := (List.cons.inj e).1
    omega
  unfold refusal
  rw [if_neg (n _ (by decide)), if_neg (n _ (by decide)), if_neg (n _ (by decide)), if_neg (n _ (by decide)), if_neg (n _ (by decide))]
/-- what a call's end must be -/
def Out (A : Ad) (H : Hp) (a l : Addr) (r : Vamacb.State × List Int) (Q : VK) (E : XK) : Prop :=
  (∀ e, refusal A r.2 = some e → ∀ H', After A H H' a l r.1.deeds → E (.ref e) none H') ∧
  (refusal A r.2 = none → ∀ (H' : Hp) (p : Addr), After A H H' a l r.1.deeds → H p = none → H' p = some (.lst (r.2.map V.int)) → Q (.ref p) H')
/-- a call with a list; a call without -/
def spCall1 (A : Ad) (c : List Int → Vamacb.Call) : Sp := fun vs H Q E => ∃ (a l n : Addr) (ds : List Deed) (ns : List Int), vs = [.ref a, .ref n] ∧ RecAt A H a l ds ∧ H n = some (.lst (ns.map V.int)) ∧ Out A H a l (Vamacb.step ⟨ds⟩ (c ns)) Q E
def spCall0 (A : Ad) (c : Vamacb.Call) : Sp := fun vs H Q E => ∃ (a l : Addr) (ds : List Deed), vs = [.ref a] ∧ RecAt A H a l ds ∧ Out A H a l (Vamacb.step ⟨ds⟩ c) Q E
theorem rec_deeds {l : Addr} : (recF l).lookup ("deeds" : Str) = some (.ref l) := lk_here

section
variable {P : Program} {w : World} {K : PySem.W.Frag} {mg : Str → Option Value} {base : Heap} {A : Ad}
theorem ok_Recording_init (T : Txt K mg A) : Okf P w K mg base CX0 1 A.f_Recording_init ["self"] (fun vs H Q _ => ∃ (p dx : Addr), vs = [.ref p] ∧ H p = some (.ins A.c_Recording dx []) ∧ ∀ l, H l = none → Q .non (upd (upd H l (.lst [])) p (.ins A.c_Recording dx (recF l)))) := by
  obtain ⟨fd, F, b⟩ := T.d_Recording_init
  refine ⟨fd, F.ok sc_Recording_init (fun vs H Q E h => ?_) (fun cdv AA outer s H vs Q E hr h => ?_), b, F.kp⟩
  · obtain ⟨p, dx, rfl, _⟩ := h
    rfl
  obtain ⟨p, dx, rfl, hp, q⟩ := h
  refine ⟨_, (pss_one (ps_fld (pv 0) (pe_lst pa_nil) rfl)), ?_⟩
  refine ⟨(by show 0 ≤ sizeLine; decide), fun l hl => ⟨_, rfl, p, _, dx, _, rfl, same_new hl _ _ hp, T.cl_Recording, T.na_Recording_deeds, (by show 0 < 1000; decide), ?_⟩⟩
  exact q l hl
theorem ok_record (T : Txt K mg A) : Okf P w K mg base (L2.CX P w) 4 A.f_Recording_record ["self", "numbers"] (spCall1 A .record) := by
  have G_whole_deeds := ok_whole_deeds (P := P) (w := w) (base := base) T
  obtain ⟨fd, F, b⟩ := T.d_Recording_record
  refine ⟨fd, F.okX sc_Recording_record (fun vs H Q E h => ?_) (fun cdv AA outer s H vs Q E hr h => ?_), b, F.kp⟩
  · obtain ⟨a, l, n, ds, ns, rfl, _⟩ := h
    rfl
  obtain ⟨a, l, n, ds, ns, rfl, hR, hn, kE, kQ⟩ := h
  refine ⟨_, (pss_cons (ps_fld (pv 0) (call_f G_whole_deeds (hr.mono (by omega)) rfl T.g_whole_deeds (passes_call (takes_of rfl rfl rfl rfl) (fun _ _ _ _ h => h)) (pa_cons (pv 1) pa_nil)) rfl)
      (pss_one (ps_ret (pe_lst (pa_cons (pe_callB call_len_seq (by rfl) T.z_len PySem.boot_len (pa_cons (pe_fld (pv 0) rfl) pa_nil)) pa_nil))))), ?_⟩
  have est : Vamacb.step ⟨ds⟩ (.record ns) = (match whole (readListed 0 14 readDeed) ns with | none => (⟨ds⟩, [-1]) | some d => (⟨d⟩, [Vamacb.int d.length])) := rfl
  refine ⟨_, rfl, H, n, ns, rfl, Same.refl _, hn, fun e G1 H1 x1 => ?_, fun ds' e G1 H1 p vs x1 np gp hp ap => ?_⟩
  · rw [est, e] at kE
    exact kE _ rfl H1 (After.same x1.same hR)
  · rw [est, e] at kQ
    obtain ⟨dx, vs0, r1, r2, r3, r4, r5⟩ := hR
    have r1' := x1.same _ _ r1
    have ne : p ≠ a := ne_of hp r1' (by intro z; cases z)
    refine ⟨_, rfl, a, _, dx, _, rfl, r1', T.cl_Recording, T.na_Recording_deeds, (by show 1 < 1000; decide), ?_⟩
    have ef : putF "deeds" (.ref p) (recF l) = recF p := put_here
    rw [ef]
    have hp2 : upd H1 a (.ins A.c_Recording dx (recF p)) p = some (.lst vs) := by
      rw [upd_ne ne]
      exact hp
    refine ⟨_, rfl, a, _, dx, _, _, rfl, upd_same, T.cl_Recording, T.na_Recording_deeds, rec_deeds, p, vs, rfl, .inl (SqL.of hp2), (by show 1 ≤ sizeLine; decide), fun t ht => ?_⟩
    have nt : H1 t = none := by
      cases q : H1 t with
      | none => rfl
      | some o =>
        have z : t ≠ a := fun z => by
          rw [z, upd_same] at ht
          cases ht
        rw [upd_ne z, q] at ht
        cases ht
    have s2 : Same (upd H1 a (.ins A.c_Recording dx (recF p))) (upd (upd H1 a (.ins A.c_Recording dx (recF p))) t (.lst [.int vs.length])) := same_new ht
    refine kQ (refusal_pos (Int.natCast_nonneg _)) _ t ⟨fun b o h n1 n2 => s2 _ _ (by rw [upd_ne n1]; exact x1.same _ _ h), (Live.of x1.same).upd_.upd_, p, ?_, .inr np⟩ (x1.free nt) (by rw [upd_same, ap.length]; rfl)
    refine RecAt.mono s2 ⟨dx, vs, upd_same, hp2, ?_, listed_len e, listed_ok e⟩
    exact deeds_upd r1' (fun xs z => by cases z) (ap.deeds x1.sub)
theorem ok_add (T : Txt K mg A) : Okf P w K mg base (L2.CX P w) 4 A.f_Recording_add ["self", "numbers"] (spCall1 A .add) := by
  have G_whole_deed := ok_whole_deed (P := P) (w := w) (base := base) T
  obtain ⟨fd, F, b⟩ := T.d_Recording_add
  refine ⟨fd, F.okX sc_Recording_add (fun vs H Q E h => ?_) (fun cdv AA outer s H vs Q E hr h => ?_), b, F.kp⟩
  · obtain ⟨a, l, n, ds, ns, rfl, _⟩ := h
    rfl
  obtain ⟨a, l, n, ds, ns, rfl, hR, hn, kE, kQ⟩ := h
  refine ⟨_, (pss_cons (ps_set (i := 2) sc_Recording_add.nd rfl (Or.inl rfl) (call_f G_whole_deed (hr.mono (by omega)) rfl T.g_whole_deed (passes_call (takes_of rfl rfl rfl rfl) (fun _ _ _ _ h => h)) (pa_cons (pv 1) pa_nil)))
      (pss_cons (ps_if (pt_cmpR op_ge (pe_callB call_len_seq (by rfl) T.z_len PySem.boot_len (pa_cons (pe_fld (pv 0) rfl) pa_nil)) (pe_glob (v := V.int 14) rfl T.i_MOST_DEEDS.choose_spec ⟨_, rfl⟩) (nomark _)) (pss_one (ps_raise rfl (takes_of rfl rfl rfl rfl) (pmk_own0 PySem.F.excBase_Exception T.er_FullRecording.x T.er_FullRecording.g T.er_FullRecording.k (raises_own T.er_FullRecording.b T.er_FullRecording.t) (by exact rfl)))) pss_nil)
      (pss_cons (ps_expr (pe_bm PySem.F.plainAttrs_list PySem.F.slot_list_append PySem.F.type_list_append mt_append (pe_fld (pv 0) rfl) (pa_cons (pv 2) pa_nil)))
      (pss_one (ps_ret (pe_lst (pa_cons (pe_callB call_len_seq (by rfl) T.z_len PySem.boot_len (pa_cons (pe_fld (pv 0) rfl) pa_nil)) pa_nil))))))), ?_⟩
  have est : Vamacb.step ⟨ds⟩ (.add ns) = (match whole readDeed ns with | none => (⟨ds⟩, [-1]) | some d => if 14 ≤ ds.length then (⟨ds⟩, [-6]) else (⟨ds ++ [d]⟩, [Vamacb.int (ds.length + 1)])) := rfl
  refine ⟨_, rfl, H, n, ns, rfl, Same.refl _, hn, fun e G1 H1 x1 => ?_, fun d e G1 H1 v x1 D1 => ?_⟩
  · rw [est, e] at kE
    exact kE _ rfl H1 (After.same x1.same hR)
  · obtain ⟨dx, vs0, r1, r2, r3, r4, r5⟩ := id hR
    have r1' := x1.same _ _ r1
    have r2' := x1.same _ _ r2
    have hlen := r3.length
    refine ⟨_, rfl, a, _, dx, _, _, rfl, r1', T.cl_Recording, T.na_Recording_deeds, rec_deeds, l, vs0, rfl, .inl (SqL.of r2'), _, _, rfl, rfl, _, rfl, ?_⟩
    refine if_dec (fun c => ?_) (fun c => ?_)
    · rw [est, e] at kE
      simp only [] at kE
      rw [if_pos (by omega)] at kE
      exact kE _ rfl H1 (After.same x1.same hR)
    · rw [est, e] at kQ
      simp only [] at kQ
      rw [if_neg (by omega)] at kQ
      refine ⟨_, rfl, a, _, dx, _, _, rfl, r1', T.cl_Recording, T.na_Recording_deeds, rec_deeds, .inl ⟨rfl, _, SqL.of r2'⟩, _, rfl, l, _, _, rfl, rfl, r2', small1000 (by omega), ?_⟩
      have al : a ≠ l := ne_of r1' r2' (by intro z; cases z)
      have r1'' : upd H1 l (.lst (vs0 ++ [v])) a = some (.ins A.c_Recording dx (recF l)) := by
        rw [upd_ne al]
        exact r1'
      refine ⟨_, rfl, a, _, dx, _, _, rfl, r1'', T.cl_Recording, T.na_Recording_deeds, rec_deeds, l, _, rfl, .inl (SqL.of upd_same), (by show 1 ≤ sizeLine; decide), fun t ht => ?_⟩
      have s2 : Same (upd H1 l (.lst (vs0 ++ [v]))) (upd (upd H1 l (.lst (vs0 ++ [v]))) t (.lst [.int ((vs0 ++ [v]).length : Int)])) := same_new ht
      have nt : H1 t = none := by
        cases q : H1 t with
        | none => rfl
        | some o =>
          have z : t ≠ l := fun z => by
            rw [z, upd_same] at ht
            cases ht
          rw [upd_ne z, q] at ht
          cases ht
      refine kQ (refusal_pos (Int.natCast_nonneg _)) _ t ⟨fun b o h n1 n2 => s2 _ _ (by rw [upd_ne n2]; exact x1.same _ _ h), (Live.of x1.same).upd_.upd_, l, ?_, .inl rfl⟩ (x1.free nt) ?_
      · refine RecAt.mono s2 ⟨dx, _, r1'', upd_same, ?_, by rw [List.length_append]; show ds.length + 1 ≤ 14; omega, fun z hz => ?_⟩
        rotate_left
        · rcases List.mem_append.mp hz with hz | hz
          · exact r5 z hz
          · rw [List.mem_singleton.mp hz]
            exact whole_ok e
        exact deeds_upd r2' (fun xs z => by cases z) ((r3.deeds x1.same).append (.one (D1.mono x1.sub)))
      · rw [upd_same, List.length_append, hlen]
        rfl
theorem ok_drop (T : Txt K mg A) : Okf P w K mg base (L2.CX P w) 1 A.f_Recording_drop ["self"] (spCall0 A .drop) := by
  obtain ⟨fd, F, b⟩ := T.d_Recording_drop
  refine ⟨fd, F.okX sc_Recording_drop (fun vs H Q E h => ?_) (fun cdv AA outer s H vs Q E hr h => ?_), b, F.kp⟩
  · obtain ⟨a, l, ds, rfl, _⟩ := h
    rfl
  obtain ⟨a, l, ds, rfl, hR, kE, kQ⟩ := h
  refine ⟨_, (pss_cons (ps_if (pt_cmpR op_eq (pe_callB call_len_seq (by rfl) T.z_len PySem.boot_len (pa_cons (pe_fld (pv 0) rfl) pa_nil)) pe_int (nomark _)) (pss_one (ps_raise rfl (takes_of rfl rfl rfl rfl) (pmk_own0 PySem.F.excBase_Exception T.er_NoDeeds.x T.er_NoDeeds.g T.er_NoDeeds.k (raises_own T.er_NoDeeds.b T.er_NoDeeds.t) (by exact rfl)))) pss_nil)
      (pss_cons (ps_expr (pe_bm0 PySem.F.plainAttrs_list PySem.F.slot_list_pop PySem.F.type_list_pop mt_pop (pe_fld (pv 0) rfl)))
      (pss_one (ps_ret (pe_lst (pa_cons (pe_callB call_len_seq (by rfl) T.z_len PySem.boot_len (pa_cons (pe_fld (pv 0) rfl) pa_nil)) pa_nil)))))), ?_⟩
  have est : Vamacb.step ⟨ds⟩ .drop = if ds.isEmpty then (⟨ds⟩, [-2]) else (⟨ds.dropLast⟩, [Vamacb.int (ds.length - 1)]) := rfl
  obtain ⟨dx, vs0, r1, r2, r3, r4, r5⟩ := id hR
  have hlen := r3.length
  refine ⟨_, rfl, a, _, dx, _, _, rfl, r1, T.cl_Recording, T.na_Recording_deeds, rec_deeds, l, vs0, rfl, .inl (SqL.of r2), rfl, _, rfl, ?_⟩
  cases ds with
  | nil =>
    refine if_true_of (decide_eq_true (by rw [hlen]; rfl)) ?_
    rw [est, if_pos (show ([] : List Deed).isEmpty = true from rfl)] at kE
    exact kE _ rfl H (After.same (Same.refl _) hR)
  | cons d0 dt =>
    have hpos : 0 < vs0.length := by
      rw [hlen]
      exact Nat.succ_pos _
    refine if_false_of (decide_eq_false fun z => by have := V.int.inj z; omega) ?_
    rw [est, if_neg (show ¬ (d0 :: dt).isEmpty = true by intro z; cases z)] at kQ
    obtain ⟨y, hy⟩ : ∃ y, vs0[vs0.length - 1]? = some y := ⟨_, List.getElem?_eq_getElem (by omega)⟩
    refine ⟨_, rfl, a, _, dx, _, _, rfl, r1, T.cl_Recording, T.na_Recording_deeds, rec_deeds, .inl ⟨rfl, _, SqL.of r2⟩, l, vs0, y, rfl, rfl, r2, hy, ?_⟩
    have al : a ≠ l := ne_of r1 r2 (by intro z; cases z)
    have r1'' : upd H l (.lst vs0.dropLast) a = some (.ins A.c_Recording dx (recF l)) := by
      rw [upd_ne al]
      exact r1
    refine ⟨_, rfl, a, _, dx, _, _, rfl, r1'', T.cl_Recording, T.na_Recording_deeds, rec_deeds, l, _, rfl, .inl (SqL.of upd_same), (by show 1 ≤ sizeLine; decide), fun t ht => ?_⟩
    have s2 : Same (upd H l (.lst vs0.dropLast)) (upd (upd H l (.lst vs0.dropLast)) t (.lst [.int (vs0.dropLast.length : Int)])) := same_new ht
    have nt : H t = none := by
      cases q : H t with
      | none => rfl
      | some o =>
        have z : t ≠ l := fun z => by
          rw [z, upd_same] at ht
          cases ht
        rw [upd_ne z, q] at ht
        cases ht
    refine kQ (refusal_pos (Int.natCast_nonneg _)) _ t ⟨fun b o h n1 n2 => s2 _ _ (by rw [upd_ne n2]; exact h), (Live.of (Same.refl _)).upd_.upd_, l, ?_, .inl rfl⟩ nt ?_
    · refine RecAt.mono s2 ⟨dx, _, r1'', upd_same, deeds_upd r2 (fun xs z => by cases z) r3.dropLast, ?_, fun z hz => r5 z ((List.dropLast_sublist _).subset hz)⟩
      rw [List.length_dropLast]
      omega
    · rw [upd_same, List.length_dropLast, hlen]
      rfl
theorem ok_countM (T : Txt K mg A) : Okf P w K mg base CX0 11 A.f_Recording_count ["self"] (spCall0 A .count) := by
  have G_fold := ok_fold (P := P) (w := w) (base := base) T
  obtain ⟨fd, F, b⟩ := T.d_Recording_count
  refine ⟨fd, F.ok sc_Recording_count (fun vs H Q E h => ?_) (fun cdv AA outer s H vs Q E hr h => ?_), b, F.kp⟩
  · obtain ⟨a, l, ds, rfl, _⟩ := h
    rfl
  obtain ⟨a, l, ds, rfl, hR, kE, kQ⟩ := h
  refine ⟨_, (pss_one (ps_ret (pe_lst (pa_cons (pe_fld (call_f G_fold (hr.mono (by omega)) rfl T.g_fold pass0 (pa_cons (pe_fld (pv 0) rfl) pa_nil)) rfl) pa_nil)))), ?_⟩
  obtain ⟨dx, vs0, r1, r2, r3, r4, r5⟩ := id hR
  refine ⟨_, rfl, a, _, dx, _, _, rfl, r1, T.cl_Recording, T.na_Recording_deeds, rec_deeds, H, l, ds, rfl, Same.refl _, ⟨vs0, r2, r3⟩, r4, fun G1 H1 v x1 F1 => ?_⟩
  obtain ⟨p, dp, q, rfl, f1, _⟩ := F1
  refine ⟨p, _, dp, _, _, rfl, x1.sub _ _ f1, T.cl_Folded, T.na_Folded_ways, fo_ways, (by show 1 ≤ sizeLine; decide), fun t ht => ?_⟩
  exact kQ (refusal_pos (Int.natCast_nonneg _)) _ t (After.same (x1.same.trans (same_new ht)) hR) (x1.free ht) upd_same
/-- the least folding is fine -/
theorem least_fine {ds : List Deed} {p : Prog} (h : (Vamacb.foldings ds).best = some p) : p.size ≤ ds.length ∧ Vamacb.isCounted p = true ∧ p.depth ≤ 2 := by
  have h' : (Vamacb.fold 2 [ds]).best = some p := h
  rw [fold_tab] at h'
  exact val_fine 2 [ds] _ _ (Nat.le_refl _) p h'
theorem ok_least (T : Txt K mg A) : Okf P w K mg base CX0 11 A.f_Recording_least ["self"] (spCall0 A .least) := by
  have G_fold := ok_fold (P := P) (w := w) (base := base) T
  have G_row_as_numbers := ok_numbers (P := P) (w := w) (base := base) T 3
  obtain ⟨fd, F, b⟩ := T.d_Recording_least
  refine ⟨fd, F.ok sc_Recording_least (fun vs H Q E h => ?_) (fun cdv AA outer s H vs Q E hr h => ?_), b, F.kp⟩
  · obtain ⟨a, l, ds, rfl, _⟩ := h
    rfl
  obtain ⟨a, l, ds, rfl, hR, kE, kQ⟩ := h
  refine ⟨_, (pss_cons (ps_set (i := 1) sc_Recording_least.nd rfl (Or.inl rfl) (call_f G_fold (hr.mono (by omega)) rfl T.g_fold pass0 (pa_cons (pe_fld (pv 0) rfl) pa_nil)))
      (pss_one (ps_ret (pe_op op_cat (pe_lst (pa_cons (pe_fld (pv 1) rfl) pa_nil)) (call_f G_row_as_numbers (hr.mono (by omega)) rfl T.g_row_as_numbers pass0 (pa_cons (pe_fld (pv 1) rfl) pa_nil)))))), ?_⟩
  obtain ⟨dx, vs0, r1, r2, r3, r4, r5⟩ := id hR
  refine ⟨_, rfl, a, _, dx, _, _, rfl, r1, T.cl_Recording, T.na_Recording_deeds, rec_deeds, H, l, ds, rfl, Same.refl _, ⟨vs0, r2, r3⟩, r4, fun G1 H1 v x1 F1 => ?_⟩
  obtain ⟨p, dp, q, rfl, f1, R1⟩ := F1
  have fine : (Vamacb.leastOf ds).size ≤ 14 ∧ Vamacb.isCounted (Vamacb.leastOf ds) = true ∧ (Vamacb.leastOf ds).depth ≤ 2 := by
    unfold Vamacb.leastOf
    cases e : (Vamacb.foldings ds).best with
    | none => exact ⟨Nat.zero_le _, rfl, Nat.zero_le _⟩
    | some p =>
      obtain ⟨a1, a2, a3⟩ := least_fine e
      exact ⟨Nat.le_trans a1 r4, a2, a3⟩
  obtain ⟨z1, z2, z3⟩ := fine
  refine ⟨_, rfl, p, _, dp, _, _, rfl, x1.sub _ _ f1, T.cl_Folded, T.na_Folded_pieces, fo_pieces, (by show 1 ≤ sizeLine; decide), fun t ht => ?_⟩
  have X2 := x1.trans (Ext.open_ (o := .lst [.int ((Vamacb.leastOf ds).size : Int)]) x1.sub ht)
  refine ⟨_, rfl, p, _, dp, _, _, rfl, X2.sub _ _ f1, T.cl_Folded, T.na_Folded_row, fo_row, G1, q, Vamacb.leastOf ds, rfl, by omega, X2.sub, R1, z2, by omega, fun H3 r3' x3 n3 h3 => ?_⟩
  have h4 := flatProg_le (Vamacb.leastOf ds)
  refine ⟨t, r3', _, _, rfl, rfl, x3.same _ _ upd_same, h3, small (by rw [List.length_map]; simp only [List.length_cons, List.length_nil]; omega), fun t2 ht2 => ?_⟩
  have X3 := X2.trans x3
  exact kQ (refusal_pos (Int.natCast_nonneg _)) _ t2 (After.same (X3.same.trans (same_new ht2)) hR) (X3.free ht2) upd_same
/-! ### compared -/
def cmpAns (a b : List Deed) : List Int := match Vamacb.firstOther a b with
  | none => [1]
  | some i => [0, Vamacb.int i]
def spCompare : Sp := fun vs H Q _ => ∃ (G : Hp) (p q : Addr) (vs1 vs2 : List V) (a b : List Deed), vs = [.ref p, .ref q] ∧ Same G H ∧ H p = some (.lst vs1) ∧ All2 (DeedAt G) vs1 a ∧ H q = some (.lst vs2) ∧ All2 (DeedAt G) vs2 b ∧ a.length ≤ 1000 ∧ b.length ≤ 1000 ∧
  ∀ (H' : Hp) (r : Addr), Ext G H G H' none_ → H r = none → H' r = some (.lst ((cmpAns a b).map V.int)) → Q (.ref r) H'
theorem ok_compare (T : Txt K mg A) : Okf P w K mg base CX0 1 A.f_compare ["told", "deeds"] spCompare := by
  obtain ⟨fd, F, b⟩ := T.d_compare
  refine ⟨fd, F.ok sc_compare (fun vs H Q E h => ?_) (fun cdv AA outer s H vs Q E hr h => ?_), b, F.kp⟩
  · obtain ⟨G, p, q, vs1, vs2, a, b, rfl, _⟩ := h
    rfl
  obtain ⟨G, p, q, vs1, vs2, a, b, rfl, hS, h1, a1, h2, a2, l1, l2, kQ⟩ := h
  refine ⟨_, (pss_cons (ps_set (i := 2) sc_compare.nd rfl (Or.inl rfl) (pe_callB (call_min2 rfl) (by rfl) T.z_min (by decide +kernel) (pa_cons (pe_callB call_len_seq (by rfl) T.z_len PySem.boot_len (pa_cons (pv 0) pa_nil)) (pa_cons (pe_callB call_len_seq (by rfl) T.z_len PySem.boot_len (pa_cons (pv 1) pa_nil)) pa_nil))))
      (pss_cons (ps_for PassesOwn.never rfl (pi_range1 rfl T.z_range (pa_cons (pv 2) pa_nil)) (pg_name (i := 3) sc_compare.nd rfl (Or.inl rfl)) (pss_one (ps_if (pt_cmpR (op_neD hr.units) (pe_ix ix_list (pv 0) (pv 3) (fun _ _ => rfl)) (pe_ix ix_list (pv 1) (pv 3) (fun _ _ => rfl)) (nomark _)) (pss_one (ps_ret (pe_lst (pa_cons pe_int (pa_cons (pv 3) pa_nil))))) pss_nil)))
      (pss_cons (ps_if (pt_cmpR op_eq (pe_callB call_len_seq (by rfl) T.z_len PySem.boot_len (pa_cons (pv 0) pa_nil)) (pe_callB call_len_seq (by rfl) T.z_len PySem.boot_len (pa_cons (pv 1) pa_nil)) (nomark _)) (pss_one (ps_ret (pe_lst (pa_cons pe_int pa_nil)))) pss_nil)
      (pss_one (ps_ret (pe_lst (pa_cons pe_int (pa_cons (pv 2) pa_nil)))))))), ?_⟩
  have e1 := a1.length
  have e2 := a2.length
  have emin : (if (vs2.length : Int) < (vs1.length : Int) then (vs2.length : Int) else (vs1.length : Int)) = ((min a.length b.length : Nat) : Int) := by
    rw [e1, e2]
    split <;> omega
  refine ⟨_, rfl, p, vs1, rfl, .inl (SqL.of h1), _, rfl, q, vs2, rfl, .inl (SqL.of h2), _, _, rfl, ?_⟩
  have other : ∀ i : Nat, (∀ j, j < i → a[j]? = b[j]?) → a[i]? ≠ b[i]? → ∀ t, H t = none → Q (.ref t) (upd H t (.lst [.int 0, .int (i : Int)])) := fun i hj hn t ht => kQ _ t (Ext.open_ hS ht) ht (by rw [upd_same]; unfold cmpAns; rw [other_some hj hn]; rfl)
  refine ⟨_, rfl, _, rfl, by rw [emin]; omega, by rw [emin]; omega, ?_⟩
  rw [emin]
  refine for_range (lo := 0) (n := (((min a.length b.length : Nat) : Int) ).toNat) (fun i σ H' => H' = H ∧ (∀ j, j < i → a[j]? = b[j]?) ∧ ∃ v : Option V, σ = [some (.ref p), some (.ref q), some (.int ((min a.length b.length : Nat) : Int)), v]) ⟨rfl, fun j hj => absurd hj (Nat.not_lt_zero _), none, ?_⟩ ?_ ?_
  · rw [← emin]
    rfl
  · rintro i σ H' hi ⟨rfl, hall, v, rfl⟩
    have hi1 : i < a.length := by omega
    have hi2 : i < b.length := by omega
    obtain ⟨u1, g1, D1⟩ := a1.get' (List.getElem?_eq_getElem hi1)
    obtain ⟨u2, g2, D2⟩ := a2.get' (List.getElem?_eq_getElem hi2)
    refine ⟨_, rfl, _, rfl, p, vs1, _, u1, rfl, rfl, SqL.of h1, atI_ok (by omega) (by rw [show (0 + (i : Int)).toNat = i by omega]; exact g1), _, rfl, _, rfl, q, vs2, _, u2, rfl, rfl, SqL.of h2, atI_ok (by omega) (by rw [show (0 + (i : Int)).toNat = i by omega]; exact g2), dataD _, dataD _, dp_deed hS D1, dp_deed hS D2, shaped_deed _, shaped_deed _, _, rfl, ?_⟩
    rw [eqv_deed]
    by_cases c : a[i] = b[i]
    · refine if_false_of (by rw [decide_eq_true c]; rfl) ?_
      refine ⟨rfl, fun j hj => ?_, _, rfl⟩
      by_cases z : j = i
      · subst z
        rw [List.getElem?_eq_getElem hi1, List.getElem?_eq_getElem hi2, c]
      · exact hall j (by omega)
    · refine if_true_of (by rw [decide_eq_false c]; rfl) ?_
      refine ⟨_, rfl, (by show 2 ≤ sizeLine; decide), fun t ht => ?_⟩
      rw [show (0 : Int) + (i : Int) = (i : Int) by omega]
      exact other i hall (by rw [List.getElem?_eq_getElem hi1, List.getElem?_eq_getElem hi2]; exact fun z => c (Option.some.inj z)) t ht
  · rintro σ H' ⟨rfl, hall, v, rfl⟩
    rw [Int.toNat_natCast] at hall
    refine ⟨_, rfl, p, vs1, rfl, .inl (SqL.of h1), _, rfl, q, vs2, rfl, .inl (SqL.of h2), rfl, _, rfl, ?_⟩
    by_cases c : a.length = b.length
    · refine if_true_of (decide_eq_true (by rw [e1, e2, c])) ?_
      have eab : a = b := List.ext_getElem? fun j => by
        by_cases hj : j < min a.length b.length
        · exact hall j hj
        · rw [List.getElem?_eq_none (by omega), List.getElem?_eq_none (by omega)]
      refine ⟨(by show 1 ≤ sizeLine; decide), fun t ht => kQ _ t (Ext.open_ hS ht) ht ?_⟩
      rw [upd_same]
      unfold cmpAns
      rw [eab, other_none]
      rfl
    · refine if_false_of (decide_eq_false fun z => c (by have := V.int.inj z; omega)) ?_
      refine ⟨_, rfl, (by show 2 ≤ sizeLine; decide), fun t ht => other _ hall ?_ t ht⟩
      by_cases z : a.length < b.length
      · rw [Nat.min_eq_left (by omega), List.getElem?_eq_none (Nat.le_refl _), List.getElem?_eq_getElem z]
        intro q
        cases q
      · rw [Nat.min_eq_right (by omega), List.getElem?_eq_none (l := b) (Nat.le_refl _), List.getElem?_eq_getElem (by omega)]
        intro q
        cases q
theorem ok_is_it (T : Txt K mg A) : Okf P w K mg base (L2.CX P w) 13 A.f_Recording_is_it ["self", "numbers"] (spCall1 A .is) := by
  have G_told_by := ok_told_by (P := P) (w := w) (base := base) T
  have G_compare := ok_compare (P := P) (w := w) (base := base) T
  obtain ⟨fd, F, b⟩ := T.d_Recording_is_it
  refine ⟨fd, F.okX sc_Recording_is_it (fun vs H Q E h => ?_) (fun cdv AA outer s H vs Q E hr h => ?_), b, F.kp⟩
  · obtain ⟨a, l, n, ds, ns, rfl, _⟩ := h
    rfl
  obtain ⟨a, l, n, ds, ns, rfl, hR, hn, kE, kQ⟩ := h
  refine ⟨_, (pss_one (ps_ret (call_f G_compare (hr.mono (by omega)) rfl T.g_compare pass0 (pa_cons (call_f G_told_by (hr.mono (by omega)) rfl T.g_told_by (passes_call (takes_of rfl rfl rfl rfl) (fun _ _ _ _ h => h)) (pa_cons (pv 1) pa_nil)) (pa_cons (pe_fld (pv 0) rfl) pa_nil))))), ?_⟩
  have est : Vamacb.step ⟨ds⟩ (.is ns) = (⟨ds⟩, match whole VamacBase.readProg ns with | none => [-1] | some p => if !Vamacb.isCounted p then [-4] else if 60 < Vamacb.lengthOf p then [-7] else cmpAns (Vamacb.unroll p) ds) := rfl
  rw [est] at kE kQ
  obtain ⟨dx, vs0, r1, r2, r3, r4, r5⟩ := id hR
  refine ⟨_, rfl, H, n, ns, rfl, Same.refl _, hn, fun e G1 H1 x1 => ?_, fun p e => ⟨fun c G1 H1 x1 => ?_, fun c c2 G1 H1 x1 => ?_, fun c c2 G1 H1 r vs x1 nr gr hr1 ar => ?_⟩⟩
  · rw [e] at kE
    exact kE _ rfl H1 (After.same x1.same hR)
  · rw [e] at kE
    simp only [c] at kE
    exact kE _ rfl H1 (After.same x1.same hR)
  · rw [e] at kE
    simp only [c] at kE
    rw [if_neg (by decide), if_pos c2] at kE
    exact kE _ rfl H1 (After.same x1.same hR)
  · rw [e] at kQ
    simp only [c] at kQ
    rw [if_neg (by decide), if_neg (by omega)] at kQ
    have lu : (Vamacb.unroll p).length ≤ 60 := by
      unfold Vamacb.unroll
      rw [unroll_length]
      exact c2
    refine ⟨_, rfl, a, _, dx, _, _, rfl, x1.same _ _ r1, T.cl_Recording, T.na_Recording_deeds, rec_deeds, G1, r, l, vs, vs0, Vamacb.unroll p, ds, rfl, x1.sub, hr1, ar, x1.same _ _ r2, r3.deeds x1.mono, by omega, by omega, fun H2 r2' x2 n2 h2 => ?_⟩
    have X2 := x1.trans x2
    refine kQ ?_ _ r2' (After.same X2.same hR) (x1.free n2) h2
    unfold cmpAns
    split
    · exact refusal_pos (by decide)
    · exact refusal_pos (by decide)
end
end Lf

set_option Elab.async false
set_option linter.all false
set_option maxRecDepth 100000
set_option maxHeartbeats 4000000
/-! # Tables: mathematics -/
namespace Lf
open VamacBase (Deed Prog Table Run readTimes readValue readNat readTable readListed readPair whole okValue)

/-! ### reading -/
theorem times_stepG {B : Type} {rd : VamacBase.Reader B} {n i : Nat} {x r : List Int} {ds : List B} (h : readTimes rd n x = (readTimes rd (n - i) r).map fun v => (ds ++ v.1, v.2)) (hi : i < n) :
    (rd r = none → readTimes rd n x = none) ∧ ∀ d r', rd r = some (d, r') → readTimes rd n x = (readTimes rd (n - (i + 1)) r').map fun v => ((ds ++ [d]) ++ v.1, v.2) := by
  have e : n - i = (n - (i + 1)) + 1 := by omega
  rw [e] at h
  refine ⟨fun q => ?_, fun d r' q => ?_⟩
  · rw [h, readTimes, q]
    rfl
  · rw [h, readTimes, q, Option.bind_some, Option.map_map]
    refine congrArg (fun f => Option.map f (readTimes rd (n - (i + 1)) r')) ?_
    funext v
    show (ds ++ d :: v.1, v.2) = ((ds ++ [d]) ++ v.1, v.2)
    rw [List.append_assoc]
    rfl
theorem take_le {lo hi z : Int} {x r : List Int} (h : take lo hi x = some (z, r)) : lo ≤ z ∧ z ≤ hi := by
  cases x with
  | nil => cases h
  | cons y t =>
    by_cases c : lo ≤ y ∧ y ≤ hi
    · rw [take_in c] at h
      cases h
      exact c
    · rw [take_out c] at h
      cases h
theorem values_ok : ∀ {n : Nat} {x r : List Int} {l : List Int}, readTimes readValue n x = some (l, r) → l.length = n ∧ ∀ v ∈ l, -999 ≤ v ∧ v ≤ 999
  | 0, x, r, l, h => by
    cases h
    exact ⟨rfl, fun v hv => nomatch hv⟩
  | n + 1, x, r, l, h => by
    rw [readTimes] at h
    obtain ⟨u, hu, h2⟩ := Option.bind_eq_some_iff.mp h
    obtain ⟨v, hv, e⟩ := Option.map_eq_some_iff.mp h2
    cases e
    obtain ⟨i1, i2⟩ := values_ok (l := v.1) (r := v.2) hv
    refine ⟨congrArg (· + 1) i1, fun y hy => ?_⟩
    rcases List.mem_cons.mp hy with rfl | hy
    · rw [value_take] at hu
      exact take_le (r := u.2) hu
    · exact i2 y hy
theorem rows_ok : ∀ {n : Nat} {x r : List Int} {l : List (List Int)}, readTimes (readTimes readValue 3) n x = some (l, r) → l.length = n ∧ ∀ y ∈ l, y.length = 3 ∧ ∀ v ∈ y, -999 ≤ v ∧ v ≤ 999
  | 0, x, r, l, h => by
    cases h
    exact ⟨rfl, fun v hv => nomatch hv⟩
  | n + 1, x, r, l, h => by
    rw [readTimes] at h
    obtain ⟨u, hu, h2⟩ := Option.bind_eq_some_iff.mp h
    obtain ⟨v, hv, e⟩ := Option.map_eq_some_iff.mp h2
    cases e
    obtain ⟨i1, i2⟩ := rows_ok (l := v.1) (r := v.2) hv
    refine ⟨congrArg (· + 1) i1, fun y hy => ?_⟩
    rcases List.mem_cons.mp hy with rfl | hy
    · exact values_ok (r := u.2) hu
    · exact i2 y hy
/-- a table within its limits -/
structure OkT (t : Table) : Prop where
  few : t.rows.length ≤ 8
  rows : ∀ r ∈ t.rows, r.length = 3 ∧ ∀ v ∈ r, -999 ≤ v ∧ v ≤ 999
  at_ : t.at_ ≤ t.rows.length
  clip : -999 ≤ t.clip ∧ t.clip ≤ 999
theorem okT_iff (t : Table) : VamacBase.okTable t = true ↔ OkT t := by
  unfold VamacBase.okTable
  rw [Bool.and_eq_true, Bool.and_eq_true, Bool.and_eq_true, List.all_eq_true]
  constructor
  · rintro ⟨h1, h2, h3, h4⟩
    refine ⟨of_decide_eq_true h1, fun r hr => ?_, of_decide_eq_true h3, value_le h4⟩
    have := h2 r hr
    rw [Bool.and_eq_true, List.all_eq_true] at this
    exact ⟨eq_of_beq this.1, fun v hv => value_le (this.2 v hv)⟩
  · rintro ⟨h1, h2, h3, h4⟩
    refine ⟨decide_eq_true h1, fun r hr => ?_, decide_eq_true h3, value_of h4⟩
    rw [Bool.and_eq_true, List.all_eq_true]
    exact ⟨beq_iff_eq.mpr (h2 r hr).1, fun v hv => value_of ((h2 r hr).2 v hv)⟩
theorem table_eq (ns : List Int) : readTable ns = ((take 0 8 ns).bind fun k => (readTimes (readTimes readValue 3) k.1.toNat k.2).bind fun u => (take 0 8 u.2).bind fun c => (take (-999) 999 c.2).bind fun v => if VamacBase.okTable ⟨u.1, c.1.toNat, v.1⟩ then some (⟨u.1, c.1.toNat, v.1⟩, v.2) else none) := by
  show ((readPair (fun x => (readNat 0 8 x).bind fun n => readTimes (readTimes readValue 3) n.1 n.2) (readPair (readNat 0 8) readValue) ns).bind fun u => _) = _
  unfold readPair
  simp only [nat_take, value_take]
  show ((((take 0 8 ns).map _).bind _).bind _).bind _ = _
  cases take 0 8 ns with
  | none => rfl
  | some k =>
    simp only [Option.map_some, Option.bind_some]
    have ev : readTimes (readTimes (fun x => take (-999) 999 x) 3) k.1.toNat k.2 = readTimes (readTimes readValue 3) k.1.toNat k.2 := by
      have : (fun x => take (-999) 999 x) = readValue := by
        funext x
        exact (value_take x).symm
      rw [this]
    cases readTimes (readTimes readValue 3) k.1.toNat k.2 with
    | none => rfl
    | some u =>
      simp only [Option.bind_some]
      show (((((take 0 8 u.2).map _).bind _).map _).bind _) = _
      cases take 0 8 u.2 with
      | none => rfl
      | some c =>
        simp only [Option.map_some, Option.bind_some]
        cases take (-999) 999 c.2 with
        | none => rfl
        | some v => rfl
section
variable {ns x1 x2 x3 x4 : List Int} {k c v : Int} {rows : List (List Int)}
theorem table_none1 (e : take 0 8 ns = none) : readTable ns = none := by
  rw [table_eq, e]
  rfl
theorem table_none2 (e1 : take 0 8 ns = some (k, x1)) (e : readTimes (readTimes readValue 3) k.toNat x1 = none) : readTable ns = none := by
  rw [table_eq, e1]
  simp only [Option.bind_some, e]
  rfl
theorem table_none3 (e1 : take 0 8 ns = some (k, x1)) (e2 : readTimes (readTimes readValue 3) k.toNat x1 = some (rows, x2)) (e : take 0 rows.length x2 = none) : readTable ns = none := by
  rw [table_eq, e1]
  simp only [Option.bind_some, e2]
  cases hc : take 0 8 x2 with
  | none => rfl
  | some c =>
    simp only [Option.bind_some]
    cases hv : take (-999) 999 c.2 with
    | none => rfl
    | some v =>
      simp only [Option.bind_some]
      rw [if_neg]
      intro z
      have z2 := ((okT_iff _).mp z).at_
      have z3 := take_le (z := c.1) (r := c.2) hc
      have z4 : c.1.toNat ≤ rows.length := z2
      cases x2 with
      | nil => cases hc
      | cons y t =>
        by_cases q : 0 ≤ y ∧ y ≤ 8
        · rw [take_in q] at hc
          cases hc
          rw [take_in (by simp only at z4; omega)] at e
          cases e
        · rw [take_out q] at hc
          cases hc
theorem take_more {x r : List Int} {z : Int} {n : Nat} (hn : n ≤ 8) (e : take 0 n x = some (z, r)) : take 0 8 x = some (z, r) := by
  cases x with
  | nil => cases e
  | cons y t =>
    by_cases q : 0 ≤ y ∧ y ≤ (n : Int)
    · rw [take_in q] at e
      cases e
      exact take_in (by omega)
    · rw [take_out q] at e
      cases e
theorem table_none4 (e1 : take 0 8 ns = some (k, x1)) (e2 : readTimes (readTimes readValue 3) k.toNat x1 = some (rows, x2)) (e3 : take 0 rows.length x2 = some (c, x3)) (e : take (-999) 999 x3 = none) : readTable ns = none := by
  have hk := take_le e1
  have hr := (rows_ok e2).1
  rw [table_eq, e1]
  simp only [Option.bind_some, e2, take_more (by omega) e3, e]
  rfl
theorem table_some (e1 : take 0 8 ns = some (k, x1)) (e2 : readTimes (readTimes readValue 3) k.toNat x1 = some (rows, x2)) (e3 : take 0 rows.length x2 = some (c, x3)) (e4 : take (-999) 999 x3 = some (v, x4)) : readTable ns = some (⟨rows, c.toNat, v⟩, x4) ∧ OkT ⟨rows, c.toNat, v⟩ := by
  have hk := take_le e1
  have hr := rows_ok e2
  have hc := take_le e3
  have ok : OkT ⟨rows, c.toNat, v⟩ := ⟨by show rows.length ≤ 8; omega, hr.2, by show c.toNat ≤ rows.length; omega, take_le e4⟩
  refine ⟨?_, ok⟩
  rw [table_eq, e1]
  simp only [Option.bind_some, e2, take_more (by omega) e3, e4]
  rw [if_pos ((okT_iff _).mpr ok)]
end
/-! ### deeds done -/
theorem end_iff {t : Table} (h : OkT t) : VamacBase.isEnd t = decide (t.at_ = t.rows.length) := by
  unfold VamacBase.isEnd
  have := h.at_
  by_cases c : t.at_ = t.rows.length
  · rw [decide_eq_true (by omega), decide_eq_true c]
  · rw [decide_eq_false (by omega), decide_eq_false c]
theorem field_lt {f : Nat} (h : VamacBase.okField f = true) : f < 3 := of_decide_eq_true h
theorem here_some {t : Table} {f : Nat} (h : OkT t) (ha : t.at_ < t.rows.length) (hf : f < 3) : ∃ r v, t.rows[t.at_]? = some r ∧ r[f]? = some v ∧ VamacBase.here t f = some v ∧ r.length = 3 ∧ (-999 ≤ v ∧ v ≤ 999) := by
  have hr := h.rows _ (List.getElem_mem ha)
  refine ⟨t.rows[t.at_], t.rows[t.at_][f]'(by omega), List.getElem?_eq_getElem ha, List.getElem?_eq_getElem (by omega), ?_, hr.1, hr.2 _ (List.getElem_mem _)⟩
  unfold VamacBase.here
  rw [List.getElem?_eq_getElem ha, Option.bind_some, List.getElem?_eq_getElem (by omega)]
theorem set_ok {t : Table} {f : Nat} {v : Int} (h : OkT t) (hv : -999 ≤ v ∧ v ≤ 999) : OkT (VamacBase.setHere t f v) := by
  unfold VamacBase.setHere
  cases hr : t.rows[t.at_]? with
  | none => exact h
  | some r =>
    refine ⟨?_, fun y hy => ?_, ?_, h.clip⟩
    · show (t.rows.set _ _).length ≤ 8
      rw [List.length_set]
      exact h.few
    · have hy' : y ∈ t.rows.set t.at_ (r.set f v) := hy
      rcases List.mem_or_eq_of_mem_set hy' with z | rfl
      · exact h.rows y z
      · obtain ⟨a1, a2⟩ := h.rows r (List.mem_of_getElem? hr)
        rw [List.length_set]
        refine ⟨a1, fun z hz => ?_⟩
        rcases List.mem_or_eq_of_mem_set hz with q | rfl
        · exact a2 z q
        · exact hv
    · show t.at_ ≤ (t.rows.set _ _).length
      rw [List.length_set]
      exact h.at_
theorem written_ok {t t' : Table} {f : Nat} {v : Int} (h : OkT t) (e : VamacBase.written t f v = .ok t') : OkT t' ∧ t' = VamacBase.setHere t f v ∧ t.at_ < t.rows.length ∧ (-999 ≤ v ∧ v ≤ 999) := by
  unfold VamacBase.written at e
  rw [end_iff h] at e
  split at e
  · cases e
  · rename_i c
    split at e
    · rename_i c2
      cases e
      have := h.at_
      exact ⟨set_ok h (value_le c2), rfl, by simp only [decide_eq_true_eq] at c; omega, value_le c2⟩
    · cases e
theorem done_ok {t t' : Table} {d : Deed} (h : OkT t) (hd : VamacBase.okDeed d = true) (e : VamacBase.doneBy t d = .ok t') : OkT t' := by
  have hat := h.at_
  cases d with
  | down =>
    unfold VamacBase.doneBy at e
    rw [end_iff h] at e
    simp only at e
    split at e
    · cases e
    · rename_i c
      cases e
      simp only [decide_eq_true_eq] at c
      exact ⟨h.few, h.rows, by show t.at_ + 1 ≤ t.rows.length; omega, h.clip⟩
  | up =>
    unfold VamacBase.doneBy at e
    simp only at e
    split at e
    · cases e
    · cases e
      exact ⟨h.few, h.rows, by show t.at_ - 1 ≤ t.rows.length; omega, h.clip⟩
  | top =>
    cases e
    exact ⟨h.few, h.rows, Nat.zero_le _, h.clip⟩
  | write f v => exact (written_ok h e).1
  | add f v => exact (written_ok h e).1
  | copy f =>
    unfold VamacBase.doneBy at e
    simp only at e
    split at e
    · cases e
    · rename_i v hv
      cases e
      refine ⟨h.few, h.rows, h.at_, ?_⟩
      unfold VamacBase.here at hv
      obtain ⟨r, h1, h2⟩ := Option.bind_eq_some_iff.mp hv
      exact (h.rows r (List.mem_of_getElem? h1)).2 v (List.mem_of_getElem? h2)
  | paste f => exact (written_ok h e).1
  | delete =>
    unfold VamacBase.doneBy at e
    rw [end_iff h] at e
    simp only at e
    split at e
    · cases e
    · rename_i c
      cases e
      simp only [decide_eq_true_eq] at c
      have hl : (t.rows.eraseIdx t.at_).length = t.rows.length - 1 := List.length_eraseIdx_of_lt (by omega)
      refine ⟨?_, fun r hr => h.rows r ((List.eraseIdx_sublist ..).subset hr), ?_, h.clip⟩
      · show (t.rows.eraseIdx t.at_).length ≤ 8
        have := h.few
        omega
      · show t.at_ ≤ (t.rows.eraseIdx t.at_).length
        omega
  | double =>
    unfold VamacBase.doneBy at e
    rw [end_iff h] at e
    simp only at e
    split at e
    · cases e
    · rename_i c
      split at e
      · cases e
      · rename_i c2
        cases e
        simp only [decide_eq_true_eq] at c
        have c2' : ¬ 8 ≤ t.rows.length := c2
        have hl : (t.rows.take (t.at_ + 1) ++ t.rows.drop t.at_).length = t.rows.length + 1 := by
          rw [List.length_append, List.length_take, List.length_drop]
          omega
        refine ⟨?_, fun r hr => ?_, ?_, h.clip⟩
        · show (t.rows.take (t.at_ + 1) ++ t.rows.drop t.at_).length ≤ 8
          omega
        · rcases List.mem_append.mp hr with hr | hr
          · exact h.rows r (List.mem_of_mem_take hr)
          · exact h.rows r (List.mem_of_mem_drop hr)
        · show t.at_ ≤ (t.rows.take (t.at_ + 1) ++ t.rows.drop t.at_).length
          omega
  | find f v =>
    unfold VamacBase.doneBy at e
    simp only at e
    split at e
    · cases e
    · rename_i i hi
      cases e
      have := List.mem_range.mp (List.mem_of_find?_eq_some hi)
      exact ⟨h.few, h.rows, by show i ≤ t.rows.length; omega, h.clip⟩
/-- the next row below with a value in a field -/
def foundB (t : Table) (f : Nat) (v : Int) : Option Nat := (List.range t.rows.length).find? fun i => decide (t.at_ < i) && ((t.rows[i]?).any fun r => r[f]? == some v)
def hitB (t : Table) (f : Nat) (v : Int) (i : Nat) : Prop := ∃ r, t.rows[i]? = some r ∧ r[f]? = some v
theorem found_some {t : Table} {f : Nat} {v : Int} {i : Nat} (h1 : t.at_ < i) (h2 : i < t.rows.length) (h3 : hitB t f v i) (h4 : ∀ j, t.at_ < j → j < i → ¬ hitB t f v j) : foundB t f v = some i := by
  unfold foundB
  rw [List.find?_range_eq_some]
  refine ⟨?_, List.mem_range.mpr h2, fun j hj => ?_⟩
  · obtain ⟨r, r1, r2⟩ := h3
    rw [decide_eq_true h1, r1]
    simp [r2]
  · by_cases c : t.at_ < j
    · have := h4 j c hj
      rw [decide_eq_true c]
      cases hr : t.rows[j]? with
      | none => rfl
      | some r =>
        simp
        intro z
        exact this ⟨r, hr, z⟩
    · rw [decide_eq_false c]
      rfl
theorem found_none {t : Table} {f : Nat} {v : Int} (h4 : ∀ j, t.at_ < j → j < t.rows.length → ¬ hitB t f v j) : foundB t f v = none := by
  unfold foundB
  rw [List.find?_eq_none]
  intro j hj z
  rw [Bool.and_eq_true] at z
  have hj' := List.mem_range.mp hj
  refine h4 j (of_decide_eq_true z.1) hj' ?_
  have z2 := z.2
  rw [List.getElem?_eq_getElem hj'] at z2
  refine ⟨_, List.getElem?_eq_getElem hj', ?_⟩
  simpa using z2
/-- how a deed ends, as a number -/
def faultN (t : Table) (d : Deed) : Int := match VamacBase.doneBy t d with
  | .ok _ => 0
  | .error f => VamacBase.faultNumber f
theorem faultN_zero {t : Table} {d : Deed} : faultN t d = 0 ↔ ∃ t', VamacBase.doneBy t d = .ok t' := by
  unfold faultN
  cases VamacBase.doneBy t d with
  | ok t' => exact ⟨fun _ => ⟨t', rfl⟩, fun _ => rfl⟩
  | error f =>
    refine ⟨fun z => ?_, fun ⟨_, z⟩ => nomatch z⟩
    cases f <;> cases z
/-! ### a run -/
def runD : Table → List Deed → Nat → Int × Nat × Table
  | t, [], n => (0, n, t)
  | t, d :: ds, n => match VamacBase.doneBy t d with
    | .error f => (VamacBase.faultNumber f, n, t)
    | .ok t' => runD t' ds (n + 1)
theorem doAll_bad {x : Run} (h : x.bad.isSome = true) : ∀ ds, doAll ds x = x
  | [] => rfl
  | d :: ds => by
    show doAll ds (VamacBase.doDeed x d) = x
    unfold VamacBase.doDeed
    rw [if_pos h]
    exact doAll_bad h ds
theorem doAll_runD : ∀ (ds : List Deed) (t : Table) (tr : List Deed), tr.length + ds.length ≤ 60 → (VamacBase.badNumber (doAll ds ⟨t, tr, none⟩).bad, (doAll ds ⟨t, tr, none⟩).trace.length, (doAll ds ⟨t, tr, none⟩).table) = runD t ds tr.length
  | [], t, tr, _ => rfl
  | d :: ds, t, tr, h => by
    rw [List.length_cons] at h
    show (VamacBase.badNumber (doAll ds (VamacBase.doDeed ⟨t, tr, none⟩ d)).bad, (doAll ds (VamacBase.doDeed ⟨t, tr, none⟩ d)).trace.length, (doAll ds (VamacBase.doDeed ⟨t, tr, none⟩ d)).table) = _
    have hl : ¬ VamacBase.DEEDS ≤ tr.length := by
      show ¬ 60 ≤ tr.length
      omega
    have e : VamacBase.doDeed ⟨t, tr, none⟩ d = match VamacBase.doneBy t d with | .error f => ⟨t, tr, some (.fault f)⟩ | .ok t' => ⟨t', tr ++ [d], none⟩ := by
      unfold VamacBase.doDeed
      simp only [Option.isSome_none, Bool.false_eq_true, if_false, if_neg hl]
      rfl
    rw [e, runD]
    cases VamacBase.doneBy t d with
    | error f =>
      simp only
      rw [doAll_bad rfl]
      rfl
    | ok t' =>
      simp only
      rw [doAll_runD ds t' (tr ++ [d]) (by rw [List.length_append]; show tr.length + 1 + _ ≤ 60; omega), List.length_append]
      rfl
theorem play_eq {ds : List Deed} {t : Table} (h : ds.length ≤ 14) : VamacBase.badNumber (VamacBase.run (Vamacb.leastOf ds) t).bad :: Vamacb.int (VamacBase.run (Vamacb.leastOf ds) t).trace.length :: VamacBase.flatTable (VamacBase.run (Vamacb.leastOf ds) t).table = (runD t ds 0).1 :: ((runD t ds 0).2.1 : Int) :: VamacBase.flatTable (runD t ds 0).2.2 := by
  have e := doAll_runD ds t [] (by show 0 + _ ≤ 60; omega)
  rw [run_least]
  have e1 := congrArg (fun z => z.1) e
  have e2 := congrArg (fun z => z.2.1) e
  have e3 := congrArg (fun z => z.2.2) e
  simp only at e1 e2 e3
  have b : VamacBase.begin_ t = ⟨t, [], none⟩ := rfl
  rw [b, e1, e3]
  unfold Vamacb.int
  rw [e2]
  rfl
theorem runD_pos : ∀ (ds : List Deed) (t : Table) (n : Nat), 0 ≤ (runD t ds n).1
  | [], _, _ => Int.le_refl _
  | d :: ds, t, n => by
    rw [runD]
    split
    · rename_i f _
      show 0 ≤ VamacBase.faultNumber f
      cases f <;> decide
    · exact runD_pos ds _ _
end Lf

set_option Elab.async false
set_option linter.all false
set_option maxRecDepth 100000
set_option maxHeartbeats 4000000
/-! # Call by call -/
namespace Lf
open PySem PySem.Spec PyProof.Rows L2
open VamacBase (Deed Prog)

theorem refusal_cases {A : Ad} {l : List Int} {e : Addr} (h : refusal A l = some e) : (l = [-1] ∧ e = A.c_NotWhole) ∨ (l = [-2] ∧ e = A.c_NoDeeds) ∨ (l = [-4] ∧ e = A.c_NotOnlyRounds) ∨ (l = [-6] ∧ e = A.c_FullRecording) ∨ (l = [-7] ∧ e = A.c_TellsTooMuch) := by
  unfold refusal at h
  split at h
  · rename_i c
    exact .inl ⟨c, (Option.some.inj h).symm⟩
  · split at h
    · rename_i c
      exact .inr (.inl ⟨c, (Option.some.inj h).symm⟩)
    · split at h
      · rename_i c
        exact .inr (.inr (.inl ⟨c, (Option.some.inj h).symm⟩))
      · split at h
        · rename_i c
          exact .inr (.inr (.inr (.inl ⟨c, (Option.some.inj h).symm⟩)))
        · split at h
          · rename_i c
            exact .inr (.inr (.inr (.inr ⟨c, (Option.some.inj h).symm⟩)))
          · cases h
def spDo (A : Ad) : Sp := fun vs H Q E => ∃ (a l n : Addr) (c : Int) (ds : List Deed) (ns : List Int) (k : Vamacb.Call), vs = [.ref a, .int c, .ref n] ∧ kOf c ns = some k ∧ RecAt A H a l ds ∧ H n = some (.lst (ns.map V.int)) ∧ Out A H a l (Vamacb.step ⟨ds⟩ k) Q E
def spAnswer (A : Ad) : Sp := fun vs H Q _ => ∃ (a l n : Addr) (c : Int) (ds : List Deed) (ns : List Int) (k : Vamacb.Call), vs = [.ref a, .int c, .ref n] ∧ kOf c ns = some k ∧ RecAt A H a l ds ∧ H n = some (.lst (ns.map V.int)) ∧
  ∀ (H' : Hp) (p : Addr), After A H H' a l (Vamacb.step ⟨ds⟩ k).1.deeds → H p = none → H' p = some (.lst ((Vamacb.step ⟨ds⟩ k).2.map V.int)) → Q (.ref p) H'
def spAnswers (K : PySem.W.Frag) : Sp := fun vs H Q _ => ∃ (a : Addr) (ns : List Int), vs = [.ref a] ∧ SqL K H a (ns.map V.int) ∧ PyVamacb.answers_asked ns = true ∧
  ∀ (H' : Hp) (p : Addr), H' p = some (.lst ((PyVamacb.answers ns).map V.int)) → Q (.ref p) H'
/-- a list that is read stands where its address stands -/
theorem SqL.keep {K : PySem.W.Frag} {H H' : Hp} {a : Addr} {xs : List V} (h : SqL K H a xs) (k : ∀ o, H a = some o → H' a = some o) : SqL K H' a xs := by
  rcases h with (q | ⟨o, q⟩) | q
  · exact .inl (.inl (k _ q))
  · exact .inl (.inr ⟨o, k _ q⟩)
  · exact .inr q

section
variable {P : Program} {w : World} {K : PySem.W.Frag} {mg : Str → Option Value} {base : Heap} {A : Ad}
theorem After.new {H H' : Hp} {a l t : Addr} {ds : List Deed} {o : HO} (h : After A H H' a l ds) (ht : H' t = none) : After A H (upd H' t o) a l ds := by
  obtain ⟨k, lv, l', r, e⟩ := h
  exact ⟨fun b u q n1 n2 => same_new ht _ _ (k b u q n1 n2), lv.upd_, l', r.mono (same_new ht), e⟩
theorem ok_answer {k : Nat} (T : Txt K mg A) (G_do_call : Okf P w K mg base (L2.CX P w) k A.f_do_call ["recording", "call", "numbers"] (spDo A)) : Okf P w K mg base CX0 (k + 1) A.f_answer ["recording", "call", "numbers"] (spAnswer A) := by
  obtain ⟨fd, F, b⟩ := T.d_answer
  refine ⟨fd, F.ok sc_answer (fun vs H Q E h => ?_) (fun cdv AA outer s H vs Q E hr h => ?_), b, F.kp⟩
  · obtain ⟨a, l, n, c, ds, ns, k, rfl, _⟩ := h
    rfl
  obtain ⟨a, l, n, c, ds, ns, kk, rfl, hk, hR, hn, kQ⟩ := h
  refine ⟨_, (pss_one (ps_try_many rfl rfl takes0
      (fun W pn xe tk po => (pss_one (ps_ret (call_fS G_do_call (hr.mono (by omega)) rfl T.g_do_call (fun σ => passAt tk σ) (pa_cons (pv 0) (pa_cons (pv 1) (pa_cons (pv 2) pa_nil)))))))
      (HdsOk.cons ⟨rfl, by decide, Or.inl T.er_NotWhole.g⟩ (fun a oe cls d pn hz hf => (pss_one (ps_ret (pe_lst (pa_cons (pe_un un_neg pe_int) pa_nil)))))
        (HdsOk.cons ⟨rfl, by decide, Or.inl T.er_NoDeeds.g⟩ (fun a oe cls d pn hz hf => (pss_one (ps_ret (pe_lst (pa_cons (pe_un un_neg pe_int) pa_nil)))))
        (HdsOk.cons ⟨rfl, by decide, Or.inl T.er_NotOnlyRounds.g⟩ (fun a oe cls d pn hz hf => (pss_one (ps_ret (pe_lst (pa_cons (pe_un un_neg pe_int) pa_nil)))))
        (HdsOk.cons ⟨rfl, by decide, Or.inl T.er_FullRecording.g⟩ (fun a oe cls d pn hz hf => (pss_one (ps_ret (pe_lst (pa_cons (pe_un un_neg pe_int) pa_nil)))))
        (HdsOk.cons ⟨rfl, by decide, Or.inl T.er_TellsTooMuch.g⟩ (fun a oe cls d pn hz hf => (pss_one (ps_ret (pe_lst (pa_cons (pe_un un_neg pe_int) pa_nil)))))
        HdsOk.nil))))))), ?_⟩
  have fin : ∀ (z : Int), (Vamacb.step ⟨ds⟩ kk).2 = [z] → ∀ H', After A H H' a l (Vamacb.step ⟨ds⟩ kk).1.deeds → ∀ t, H' t = none → Q (.ref t) (upd H' t (.lst [.int z])) := fun z e H' af t ht => by
    have nt : H t = none := af.live.free ht
    exact kQ _ t (af.new ht) nt (by rw [upd_same, e]; rfl)
  refine ⟨_, rfl, _, rfl, _, rfl, a, l, n, c, ds, ns, kk, rfl, hk, hR, hn, fun e he H' af => ?_, fun _ H' p af np hp => kQ H' p af np hp⟩
  rcases refusal_cases he with ⟨z, rfl⟩ | ⟨z, rfl⟩ | ⟨z, rfl⟩ | ⟨z, rfl⟩ | ⟨z, rfl⟩
  · refine ⟨true, T.ex_NotWhole_NotWhole, fun _ a0 _ => ?_, fun q => Bool.noConfusion q⟩
    exact ⟨_, rfl, (by show 1 ≤ sizeLine; decide), fun t ht => fin _ z H' af t ht⟩
  · refine ⟨false, T.ex_NoDeeds_NotWhole, fun q => Bool.noConfusion q, fun _ => ?_⟩
    refine ⟨true, T.ex_NoDeeds_NoDeeds, fun _ a0 _ => ?_, fun q => Bool.noConfusion q⟩
    exact ⟨_, rfl, (by show 1 ≤ sizeLine; decide), fun t ht => fin _ z H' af t ht⟩
  · refine ⟨false, T.ex_NotOnlyRounds_NotWhole, fun q => Bool.noConfusion q, fun _ => ?_⟩
    refine ⟨false, T.ex_NotOnlyRounds_NoDeeds, fun q => Bool.noConfusion q, fun _ => ?_⟩
    refine ⟨true, T.ex_NotOnlyRounds_NotOnlyRounds, fun _ a0 _ => ?_, fun q => Bool.noConfusion q⟩
    exact ⟨_, rfl, (by show 1 ≤ sizeLine; decide), fun t ht => fin _ z H' af t ht⟩
  · refine ⟨false, T.ex_FullRecording_NotWhole, fun q => Bool.noConfusion q, fun _ => ?_⟩
    refine ⟨false, T.ex_FullRecording_NoDeeds, fun q => Bool.noConfusion q, fun _ => ?_⟩
    refine ⟨false, T.ex_FullRecording_NotOnlyRounds, fun q => Bool.noConfusion q, fun _ => ?_⟩
    refine ⟨true, T.ex_FullRecording_FullRecording, fun _ a0 _ => ?_, fun q => Bool.noConfusion q⟩
    exact ⟨_, rfl, (by show 1 ≤ sizeLine; decide), fun t ht => fin _ z H' af t ht⟩
  · refine ⟨false, T.ex_TellsTooMuch_NotWhole, fun q => Bool.noConfusion q, fun _ => ?_⟩
    refine ⟨false, T.ex_TellsTooMuch_NoDeeds, fun q => Bool.noConfusion q, fun _ => ?_⟩
    refine ⟨false, T.ex_TellsTooMuch_NotOnlyRounds, fun q => Bool.noConfusion q, fun _ => ?_⟩
    refine ⟨false, T.ex_TellsTooMuch_FullRecording, fun q => Bool.noConfusion q, fun _ => ?_⟩
    refine ⟨true, T.ex_TellsTooMuch_TellsTooMuch, fun _ a0 _ => ?_, fun q => Bool.noConfusion q⟩
    exact ⟨_, rfl, (by show 1 ≤ sizeLine; decide), fun t ht => fin _ z H' af t ht⟩
/-- the list of calls from a place on -/
theorem drop_cons {ns : List Int} {i : Nat} {p : Int} {r : List Int} (h : ns.drop i = p :: r) : ns[i]? = some p ∧ r = ns.drop (i + 1) ∧ i < ns.length := by
  have hi : i < ns.length := by
    by_cases c : i < ns.length
    · exact c
    · rw [List.drop_eq_nil_of_le (by omega)] at h
      cases h
  rw [List.drop_eq_getElem_cons hi] at h
  obtain ⟨h1, h2⟩ := List.cons.inj h
  exact ⟨by rw [List.getElem?_eq_getElem hi, h1], h2.symm, hi⟩
theorem in_calls (p : Int) (h : 0 ≤ p ∧ p ≤ 10) : inV (.int p) [.int 0, .int 1, .int 5] = (decide (p = 0) || (decide (p = 1) || decide (p = 5))) := by
  have e : p = 0 ∨ p = 1 ∨ p = 2 ∨ p = 3 ∨ p = 4 ∨ p = 5 ∨ p = 6 ∨ p = 7 ∨ p = 8 ∨ p = 9 ∨ p = 10 := by omega
  rcases e with rfl | rfl | rfl | rfl | rfl | rfl | rfl | rfl | rfl | rfl | rfl <;> decide
end
end Lf

set_option Elab.async false
set_option linter.all false
set_option maxRecDepth 100000
set_option maxHeartbeats 4000000
/-! # Deeds as numbers; unroll, told -/
namespace Lf
open PySem PySem.Spec PyProof.Rows L2
open VamacBase (Deed Prog readDeed readTimes readNat readListed whole)

theorem flatMap_deeds_le (ds : List Deed) : (ds.flatMap VamacBase.flatDeed).length ≤ 3 * ds.length := by
  induction ds with
  | nil => exact Nat.le_refl _
  | cons d ds ih =>
    have := flat_deed_le d
    rw [List.flatMap_cons, List.length_append, List.length_cons]
    omega
section
variable {P : Program} {w : World} {K : PySem.W.Frag} {mg : Str → Option Value} {base : Heap} {A : Ad}
def spDeedsNum : Sp := fun vs H Q _ => ∃ (G : Hp) (l : Addr) (ws : List V) (ds : List Deed), vs = [.ref l] ∧ Same G H ∧ H l = some (.lst ws) ∧ All2 (DeedAt G) ws ds ∧ ds.length ≤ 100 ∧
  ∀ (H' : Hp) (r : Addr), Ext G H G H' none_ → H r = none → H' r = some (.lst ((VamacBase.flatDeeds ds).map V.int)) → Q (.ref r) H'
theorem ok_deeds_as_numbers (T : Txt K mg A) : Okf P w K mg base CX0 1 A.f_deeds_as_numbers ["deeds"] spDeedsNum := by
  obtain ⟨fd, F, b⟩ := T.d_deeds_as_numbers
  refine ⟨fd, F.ok sc_deeds_as_numbers (fun vs H Q E h => ?_) (fun cdv AA outer s H vs Q E hr h => ?_), b, F.kp⟩
  · obtain ⟨G, l, ws, ds, rfl, _⟩ := h
    rfl
  obtain ⟨G, q, ws, ds, rfl, hS, h1, a1, hlen, kQ⟩ := h
  refine ⟨_, (pss_cons (ps_set (i := 1) sc_deeds_as_numbers.nd rfl (Or.inl rfl) (pe_lst (pa_cons (pe_callB call_len_seq (by rfl) T.z_len PySem.boot_len (pa_cons (pv 0) pa_nil)) pa_nil)))
      (pss_cons (ps_for PassesOwn.never rfl (pi_list (pv 0)) (pg_name (i := 2) sc_deeds_as_numbers.nd rfl (Or.inl rfl)) (pss_one (ps_expr (pe_bm PySem.F.plainAttrs_list PySem.F.slot_list_extend PySem.F.type_list_extend mt_extendT (pv 1) (pa_cons (pv 2) pa_nil)))))
      (pss_one (ps_ret (pv 1))))), ?_⟩
  refine ⟨_, rfl, q, _, rfl, .inl (SqL.of h1), (by show 1 ≤ sizeLine; decide), fun l hl => ?_⟩
  have gl : G l = none := hS.free hl
  have E1 : Ext G H G (upd H l (.lst [.int (ws.length : Int)])) none_ := Ext.open_ hS hl
  refine ⟨_, rfl, q, rfl, ⟨_, SqL.of (E1.same _ _ h1)⟩, for_list (K := K) (a := q) (xs := ws) (fun i σ H' => ∃ (v : Option V), σ = [some (.ref q), some (.ref l), v] ∧ Ext G H G H' none_ ∧ H' l = some (.lst (((ds.length : Int) :: (ds.take i).flatMap VamacBase.flatDeed).map V.int)))
    ⟨none, rfl, E1, by rw [upd_same, List.take_zero, a1.length]; rfl⟩ ?_ ?_ ?_⟩
  · rintro i σ H' _ ⟨v, rfl, X1, _⟩
    exact SqL.of (X1.same _ _ h1)
  · rintro i y σ H' hi ⟨v, rfl, X1, hl1⟩
    obtain ⟨d, hd, ⟨t1, rfl, f2⟩⟩ := a1.get hi
    have fm := flatMap_take_succ VamacBase.flatDeed hd
    have pre := flatMap_take_le VamacBase.flatDeed ds i
    have tot := flatMap_deeds_le ds
    have hdl := flat_deed_le d
    refine ⟨_, rfl, .inl ⟨rfl, _, SqL.of hl1⟩, _, rfl, l, t1, _, _, rfl, rfl, hl1, SqT.of (X1.sub _ _ f2), small (by unfold deedV; rw [List.length_map, List.length_map, List.length_cons]; omega), ?_⟩
    refine ⟨some (.ref t1), rfl, X1.put hl gl, ?_⟩
    rw [upd_same, fm]
    unfold deedV
    rw [← List.map_append]
    rfl
  · rintro σ H' ⟨v, rfl, X1, hl1⟩
    refine ⟨_, rfl, kQ H' l X1 hl ?_⟩
    rw [hl1, a1.length, List.take_length]
    rfl
theorem ok_unroll (T : Txt K mg A) : Okf P w K mg base (L2.CX P w) 13 A.f_Recording_unroll ["self", "numbers"] (spCall1 A .unroll) := by
  have G_told_by := ok_told_by (P := P) (w := w) (base := base) T
  have G_deeds_as_numbers := ok_deeds_as_numbers (P := P) (w := w) (base := base) T
  obtain ⟨fd, F, b⟩ := T.d_Recording_unroll
  refine ⟨fd, F.okX sc_Recording_unroll (fun vs H Q E h => ?_) (fun cdv AA outer s H vs Q E hr h => ?_), b, F.kp⟩
  · obtain ⟨a, l, n, ds, ns, rfl, _⟩ := h
    rfl
  obtain ⟨a, l, n, ds, ns, rfl, hR, hn, kE, kQ⟩ := h
  refine ⟨_, (pss_one (ps_ret (call_f G_deeds_as_numbers (hr.mono (by omega)) rfl T.g_deeds_as_numbers pass0 (pa_cons (call_f G_told_by (hr.mono (by omega)) rfl T.g_told_by (passes_call (takes_of rfl rfl rfl rfl) (fun _ _ _ _ h => h)) (pa_cons (pv 1) pa_nil)) pa_nil)))), ?_⟩
  have est : Vamacb.step ⟨ds⟩ (.unroll ns) = (⟨ds⟩, match whole VamacBase.readProg ns with | none => [-1] | some p => if !Vamacb.isCounted p then [-4] else if 60 < Vamacb.lengthOf p then [-7] else VamacBase.flatDeeds (Vamacb.unroll p)) := rfl
  rw [est] at kE kQ
  refine ⟨_, rfl, H, n, ns, rfl, Same.refl _, hn, fun e G1 H1 x1 => ?_, fun p e => ⟨fun c G1 H1 x1 => ?_, fun c c2 G1 H1 x1 => ?_, fun c c2 G1 H1 r vs x1 nr gr hr1 ar => ?_⟩⟩
  · rw [e] at kE
    exact kE _ rfl H1 (After.same x1.same hR)
  · rw [e] at kE
    simp only [c] at kE
    exact kE _ rfl H1 (After.same x1.same hR)
  · rw [e] at kE
    simp only [c] at kE
    rw [if_neg (by decide), if_pos c2] at kE
    exact kE _ rfl H1 (After.same x1.same hR)
  · rw [e] at kQ
    simp only [c] at kQ
    rw [if_neg (by decide), if_neg (by omega)] at kQ
    have lu : (Vamacb.unroll p).length ≤ 60 := by
      unfold Vamacb.unroll
      rw [unroll_length]
      exact c2
    refine ⟨G1, r, vs, Vamacb.unroll p, rfl, x1.sub, hr1, ar, by omega, fun H2 r2' x2 n2 h2 => ?_⟩
    have X2 := x1.trans x2
    exact kQ (refusal_pos (Int.natCast_nonneg _)) _ r2' (After.same X2.same hR) (x1.free n2) h2
theorem ok_told (T : Txt K mg A) : Okf P w K mg base CX0 2 A.f_Recording_told ["self"] (spCall0 A .told) := by
  have G_deeds_as_numbers := ok_deeds_as_numbers (P := P) (w := w) (base := base) T
  obtain ⟨fd, F, b⟩ := T.d_Recording_told
  refine ⟨fd, F.ok sc_Recording_told (fun vs H Q E h => ?_) (fun cdv AA outer s H vs Q E hr h => ?_), b, F.kp⟩
  · obtain ⟨a, l, ds, rfl, _⟩ := h
    rfl
  obtain ⟨a, l, ds, rfl, hR, kE, kQ⟩ := h
  refine ⟨_, (pss_one (ps_ret (call_f G_deeds_as_numbers (hr.mono (by omega)) rfl T.g_deeds_as_numbers pass0 (pa_cons (pe_fld (pv 0) rfl) pa_nil)))), ?_⟩
  obtain ⟨dx, vs0, r1, r2, r3, r4, r5⟩ := id hR
  refine ⟨_, rfl, a, _, dx, _, _, rfl, r1, T.cl_Recording, T.na_Recording_deeds, rec_deeds, H, l, vs0, ds, rfl, Same.refl _, r2, r3, by omega, fun H2 r x2 n2 h2 => ?_⟩
  exact kQ (refusal_pos (Int.natCast_nonneg _)) _ r (After.same x2.same hR) n2 h2
end
end Lf

set_option Elab.async false
set_option linter.all false
set_option maxRecDepth 100000
set_option maxHeartbeats 4000000
/-! # loops -/
namespace Lf
open PySem PySem.Spec PyProof.Rows L2
open VamacBase (Deed Prog)

section
variable {P : Program} {w : World} {K : PySem.W.Frag} {mg : Str → Option Value} {base : Heap} {A : Ad}
def spMost (A : Ad) : Sp := fun vs H Q _ => ∃ (G : Hp) (l : Addr) (pl le : Int) (ds : List Deed) (p m : Nat), vs = [.ref l, .int pl, .int le] ∧ pl = (p : Nat) ∧ le = (m : Nat) ∧ Same G H ∧ DeedsAt G l ds ∧ ds.length ≤ 14 ∧ p < ds.length ∧ 1 ≤ m ∧ 2 * m ≤ ds.length - p ∧
  ∀ (G' H' : Hp) (r : Nat), Ext G H G' H' none_ → Most ds p m r → Q (.int r) H'
theorem ok_most_rounds (T : Txt K mg A) : Okf P w K mg base CX0 6 A.f_most_rounds ["deeds", "place", "length"] (spMost A) := by
  have G_fold_stretch := ok_stretch (P := P) (w := w) (base := base) T 0
  have G_Stretch_init := ok_Stretch_init (P := P) (w := w) (base := base) T
  obtain ⟨fd, F, b⟩ := T.d_most_rounds
  refine ⟨fd, F.ok sc_most_rounds (fun vs H Q E h => ?_) (fun cdv AA outer s H vs Q E hr h => ?_), b, F.kp⟩
  · obtain ⟨G, l, pl, le, ds, p, m, rfl, _⟩ := h
    rfl
  obtain ⟨G, l, pl, le, ds, p, m, rfl, hpl, hle, hS, D1, hfew, hp, hm, hm2, kQ⟩ := h
  refine ⟨_, (pss_cons (ps_set (i := 3) sc_most_rounds.nd rfl (Or.inl rfl) (pe_callB (call_min2 rfl) (by rfl) T.z_min (by decide +kernel) (pa_cons (pe_glob (v := V.int 9) rfl T.i_MOST_ROUNDS.choose_spec ⟨_, rfl⟩) (pa_cons (pe_op op_fdiv (pe_op op_sub (pe_callB call_len_seq (by rfl) T.z_len PySem.boot_len (pa_cons (pv 0) pa_nil)) (pv 1)) (pv 2)) pa_nil))))
      (pss_cons (ps_set (i := 4) sc_most_rounds.nd rfl (Or.inl rfl) pe_int)
      (pss_cons (ps_while PassesOwn.never (PW.pt (pw_and (pt_cmpR op_lt (pv 4) (pv 3) (nomark _)) (pw_and1 (pt_cmpR op_gt (pe_fld (call_f G_fold_stretch (hr.mono (by omega)) rfl T.g_fold_stretch pass0 (pa_cons (call_c T.mk_Stretch G_Stretch_init (hr.mono (by omega)) rfl T.g_Stretch pass0 (pa_cons (pv 0) (pa_cons (pv 1) (pa_cons (pv 2) (pa_cons (pe_op op_add (pv 4) pe_int) (pa_cons pe_int pa_nil)))))) pa_nil)) rfl) pe_int (nomark _))))) (pss_one (ps_set (i := 4) sc_most_rounds.nd rfl (Or.inl rfl) (pe_op op_add (pv 4) pe_int))))
      (pss_one (ps_ret (pv 4)))))), ?_⟩
  obtain ⟨ws, h1, a1⟩ := id D1
  have hlen := a1.length
  -- fitting = min(MOST_ROUNDS, (len(deeds) - place) // length)
  refine ⟨_, rfl, l, _, rfl, .inl (SqL.of (hS _ _ h1)), _, rfl, _, _, rfl, rfl, _, rfl, _, _, rfl, rfl, ⟨by omega, by omega⟩, _, _, rfl, ?_⟩
  have ediv : ((ws.length : Int) - pl) / le = (((ds.length - p) / m : Nat) : Int) := by
    rw [hlen, hpl, hle, ← Int.ofNat_sub (by omega), ← Int.natCast_ediv]
  have efit : (if ((ws.length : Int) - pl) / le < 9 then ((ws.length : Int) - pl) / le else 9) = ((min 9 ((ds.length - p) / m) : Nat) : Int) := by
    rw [ediv]
    split <;> omega
  rw [efit]
  generalize hfi : min 9 ((ds.length - p) / m) = fi
  have hfi9 : fi ≤ 9 := by omega
  have hfim : ∀ k, k ≤ fi → k * m ≤ ds.length - p := fun k hk => by
    have h2 : (ds.length - p) / m * m ≤ ds.length - p := Nat.div_mul_le_self _ _
    have h3 : k * m ≤ (ds.length - p) / m * m := Nat.mul_le_mul_right _ (by omega)
    omega
  have hfi1 : 1 ≤ fi := by
    have : 2 ≤ (ds.length - p) / m := (Nat.le_div_iff_mul_le (by omega)).mpr hm2
    omega
  -- while
  refine ⟨fun n σ H' => ∃ (G' : Hp) (r : Nat), n = fi - r ∧ σ = [some (.ref l), some (.int pl), some (.int le), some (.int (fi : Int)), some (.int (r : Int))] ∧ Ext G H G' H' none_ ∧ 1 ≤ r ∧ r ≤ fi ∧ ∀ k, 2 ≤ k → k ≤ r → fitP ds p m k, ⟨_, G, 1, rfl, rfl, Ext.refl hS, Nat.le_refl _, hfi1, fun k h1 h2 => absurd h2 (by omega)⟩, ?_⟩
  rintro n σ H' ⟨G', r, rfl, rfl, X1, r1, r2, hall⟩
  refine ⟨_, rfl, _, rfl, _, _, rfl, rfl, _, rfl, ?_⟩
  refine if_dec (fun c => ?_) (fun c => ?_)
  · have c' : r < fi := by omega
    have hin := hfim (r + 1) c'
    have hp1 : p + (r + 1) * m ≤ ds.length := by omega
    -- fold_stretch(Stretch(deeds, place, length, rounds + 1, 0)).ways > 0
    refine ⟨_, rfl, _, rfl, _, rfl, _, rfl, _, _, rfl, rfl, fun x dx nx nd ne => made_of (ws := [.ref l, .int pl, .int le, .int ((r : Int) + 1), .int 0]) rfl ?_⟩
    have X2 := X1.trans (Ext.made (C := A.c_Stretch) (fs := [("deeds", .ref l), ("start", .int pl), ("length", .int le), ("rounds", .int ((r : Int) + 1)), ("deep", .int 0)]) X1.sub nx nd)
    refine ⟨rfl, _, x, ds, p, m, r + 1, rfl, X2.sub, ⟨dx, l, ?_, D1.mono X2.mono⟩, ⟨hfew, by omega, by omega, hp1⟩, fun G3 H3 v x3 F3 => ?_⟩
    · rw [upd_same]
      unfold stF
      rw [hpl, hle]
      rfl
    · have X3 := X2.trans x3
      obtain ⟨q, dq, rq, rfl, f1, _⟩ := F3
      refine ⟨q, _, dq, _, _, rfl, x3.sub _ _ f1, T.cl_Folded, T.na_Folded_ways, fo_ways, _, _, rfl, rfl, _, rfl, ?_⟩
      refine if_dec (fun c2 => ?_) (fun c2 => ?_)
      · have hfp : fitP ds p m (r + 1) := fun z => by
          rw [z] at c2
          omega
        refine ⟨fun σ' H'' => ∃ G'', σ' = [some (.ref l), some (.int pl), some (.int le), some (.int (fi : Int)), some (.int ((r : Int) + 1))] ∧ Ext G H G'' H'' none_, ?_, ?_⟩
        · rintro σ' H'' ⟨G'', rfl, X4⟩
          refine ⟨fi - (r + 1), by omega, G'', r + 1, rfl, by rw [Int.natCast_add]; rfl, X4, by omega, c', fun k k1 k2 => ?_⟩
          by_cases z : k = r + 1
          · rw [z]
            exact hfp
          · exact hall k k1 (by omega)
        · exact ⟨_, rfl, _, _, rfl, rfl, G3, rfl, X3⟩
      · refine ⟨_, rfl, kQ G3 H3 r X3 ⟨r1, by omega, hall, hfim r r2, fun _ _ z => ?_⟩⟩
        exact z (by omega)
  · refine ⟨_, rfl, kQ G' H' r X1 ⟨r1, by omega, hall, hfim r r2, fun h9 hn => ?_⟩⟩
    exfalso
    have e : r = fi := by omega
    have : r + 1 ≤ (ds.length - p) / m := (Nat.le_div_iff_mul_le (by omega)).mpr hn
    omega
/-- a loop found: a tuple of three numbers -/
def TripAt (G : Hp) (v : V) (x : Nat × Nat × Nat) : Prop := ∃ q, v = .ref q ∧ G q = some (.tup [.int (x.1 : Int), .int (x.2.1 : Int), .int (x.2.2 : Int)])
theorem All2.trips {G G' : Hp} {vs : List V} {xs : List (Nat × Nat × Nat)} (s : Same G G') (h : All2 (TripAt G) vs xs) : All2 (TripAt G') vs xs := h.imp fun _ _ ⟨q, e, z⟩ => ⟨q, e, s _ _ z⟩
def spPlain (A : Ad) : Sp := fun vs H Q _ => ∃ (G : Hp) (l : Addr) (ds : List Deed), vs = [.ref l] ∧ Same G H ∧ DeedsAt G l ds ∧ ds.length ≤ 14 ∧
  ∀ (G' H' : Hp) (r : Addr) (ws : List V), Ext G H G' H' none_ → H r = none → H' r = some (.lst ws) → All2 (TripAt G') ws (Vamacb.loopsOf ds) → Q (.ref r) H'
theorem ok_plain_loops (T : Txt K mg A) : Okf P w K mg base CX0 7 A.f_plain_loops ["deeds"] (spPlain A) := by
  have G_most_rounds := ok_most_rounds (P := P) (w := w) (base := base) T
  obtain ⟨fd, F, b⟩ := T.d_plain_loops
  refine ⟨fd, F.ok sc_plain_loops (fun vs H Q E h => ?_) (fun cdv AA outer s H vs Q E hr h => ?_), b, F.kp⟩
  · obtain ⟨G, l, ds, rfl, _⟩ := h
    rfl
  obtain ⟨G, l, ds, rfl, hS, D1, hfew, kQ⟩ := h
  refine ⟨_, (pss_cons (ps_set (i := 1) sc_plain_loops.nd rfl (Or.inl rfl) (pe_lst pa_nil))
      (pss_cons (ps_for PassesOwn.never rfl (pi_range1 rfl T.z_range (pa_cons (pe_callB call_len_seq (by rfl) T.z_len PySem.boot_len (pa_cons (pv 0) pa_nil)) pa_nil)) (pg_name (i := 2) sc_plain_loops.nd rfl (Or.inl rfl)) (pss_one (ps_for PassesOwn.never rfl (pi_range2 rfl T.z_range (pa_cons pe_int (pa_cons (pe_op op_add (pe_op op_fdiv (pe_op op_sub (pe_callB call_len_seq (by rfl) T.z_len PySem.boot_len (pa_cons (pv 0) pa_nil)) (pv 2)) pe_int) pe_int) pa_nil))) (pg_name (i := 3) sc_plain_loops.nd rfl (Or.inl rfl)) (pss_cons (ps_set (i := 4) sc_plain_loops.nd rfl (Or.inl rfl) (call_f G_most_rounds (hr.mono (by omega)) rfl T.g_most_rounds pass0 (pa_cons (pv 0) (pa_cons (pv 2) (pa_cons (pv 3) pa_nil)))))
      (pss_one (ps_if (pt_cmpR op_gt (pv 4) pe_int (nomark _)) (pss_one (ps_expr (pe_bm PySem.F.plainAttrs_list PySem.F.slot_list_append PySem.F.type_list_append mt_append (pv 1) (pa_cons (pe_tup (pa_cons (pv 2) (pa_cons (pv 3) (pa_cons (pv 4) pa_nil)))) pa_nil)))) pss_nil))))))
      (pss_one (ps_ret (pv 1))))), ?_⟩
  obtain ⟨ws0, h1, a1⟩ := id D1
  have hlen := a1.length
  refine ⟨(by show 0 ≤ sizeLine; decide), fun f hf => ?_⟩
  have gf : G f = none := hS.free hf
  have E1 : Ext G H G (upd H f (.lst [])) none_ := Ext.open_ hS hf
  refine ⟨_, rfl, l, _, rfl, .inl (SqL.of (E1.sub _ _ h1)), _, rfl, by omega, by omega, for_range (lo := 0) (n := ((ws0.length : Int)).toNat) (fun i σ H' => ∃ (v1 v2 v3 : Option V) (G' : Hp) (ws : List V), σ = [some (.ref l), some (.ref f), v1, v2, v3] ∧ Ext G H G' H' none_ ∧ G' f = none ∧ H' f = some (.lst ws) ∧ All2 (TripAt G') ws ((List.range i).flatMap (loopRow ds)))
    ⟨none, none, none, G, [], rfl, E1, gf, upd_same, .nil⟩ ?_ ?_⟩
  · rintro i σ H' hi ⟨v1, v2, v3, G', ws, rfl, X1, g1, hf1, aw⟩
    have hi' : i < ds.length := by omega
    -- for length in range(1, (len(deeds) - place) // 2 + 1)
    refine ⟨_, rfl, l, _, rfl, .inl (SqL.of (X1.sub _ _ (X1.mono _ _ h1))), _, rfl, _, _, rfl, rfl, _, _, rfl, rfl, ⟨by decide, by decide⟩, _, _, rfl, rfl, 1, _, rfl, ?_⟩
    have ediv : ((ws0.length : Int) - (0 + (i : Int))) / 2 + 1 = (((ds.length - i) / 2 + 1 : Nat) : Int) := by
      rw [hlen]
      omega
    rw [ediv]
    refine ⟨⟨by decide, by decide, by omega, by omega⟩, for_range (lo := 1) (n := ((((ds.length - i) / 2 + 1 : Nat) : Int) - 1).toNat) (fun j σ H' => ∃ (v2 v3 : Option V) (G' : Hp) (ws : List V), σ = [some (.ref l), some (.ref f), some (.int (0 + (i : Int))), v2, v3] ∧ Ext G H G' H' none_ ∧ G' f = none ∧ H' f = some (.lst ws) ∧ All2 (TripAt G') ws ((List.range i).flatMap (loopRow ds) ++ (List.range j).filterMap fun k => oneL ds i (k + 1)))
      ⟨v2, v3, G', ws, rfl, X1, g1, hf1, by rw [List.range_zero, List.filterMap_nil, List.append_nil]; exact aw⟩ ?_ ?_⟩
    · rintro j σ H2 hj ⟨v2', v3', G2, ws2, rfl, X2, g2, hf2, aw2⟩
      have hj' : j + 1 ≤ (ds.length - i) / 2 := by omega
      -- rounds = most_rounds(deeds, place, length)
      refine ⟨_, rfl, _, rfl, _, rfl, G2, l, _, _, ds, i, j + 1, rfl, by omega, by omega, X2.sub, D1.mono X2.mono, hfew, hi', by omega, by omega, fun G3 H3 r x3 M3 => ?_⟩
      have X3 := X2.trans x3
      have g3 : G3 f = none := x3.fresh _ _ hf2 g2
      have hf3 := x3.same _ _ hf2
      have one := most_one (by omega) (by omega) M3
      have nw := aw2.length
      have bound := loopRows_len ds i j
      have blen : i * ds.length ≤ 14 * 14 := Nat.mul_le_mul (by omega) hfew
      have more : ∀ x : Option (Nat × Nat × Nat), x = oneL ds i (j + 1) → (List.range i).flatMap (loopRow ds) ++ (List.range (j + 1)).filterMap (fun k => oneL ds i (k + 1)) = ((List.range i).flatMap (loopRow ds) ++ (List.range j).filterMap fun k => oneL ds i (k + 1)) ++ x.toList := fun x hx => by
        rw [loopRow_take, List.append_assoc, hx]
      -- if rounds > 1
      refine ⟨_, rfl, _, _, rfl, rfl, _, rfl, ?_⟩
      refine if_dec (fun c => ?_) (fun c => ?_)
      · refine ⟨_, rfl, .inl ⟨rfl, _, SqL.of hf3⟩, _, rfl, _, rfl, _, rfl, (by show 3 ≤ sizeLine; decide), fun t ht => ?_⟩
        have ft : f ≠ t := ne_of_none hf3 ht
        refine ⟨f, _, _, rfl, rfl, by rw [upd_ne ft]; exact hf3, small1000 (by rw [nw, List.length_append]; omega), ?_⟩
        have X4 := X3.trans (Ext.new (o := .tup [.int (0 + (i : Int)), .int (1 + (j : Int)), .int (r : Int)]) X3.sub ht)
        have g4 : upd G3 t (.tup [.int (0 + (i : Int)), .int (1 + (j : Int)), .int (r : Int)]) f = none := by
          rw [upd_ne ft]
          exact g3
        refine ⟨_, _, _, _, rfl, X4.put hf g4, g4, upd_same, ?_⟩
        rw [more (some (i, j + 1, r)) (by rw [one, if_pos (by omega)])]
        refine (aw2.trips (x3.mono.trans (same_new (X3.sub.free ht)))).append (.one ⟨t, rfl, ?_⟩)
        rw [upd_same]
        congr 3
        · show V.int (0 + (i : Int)) = V.int (i : Int)
          rw [Int.zero_add]
        · show [V.int (1 + (j : Int)), V.int (r : Int)] = [V.int ((j + 1 : Nat) : Int), V.int (r : Int)]
          rw [Int.natCast_add, Int.add_comm]
          rfl
      · refine ⟨_, _, G3, ws2, rfl, X3, g3, hf3, ?_⟩
        rw [more none (by rw [one, if_neg (by omega)]), Option.toList_none, List.append_nil]
        exact aw2.trips x3.mono
    · rintro σ H2 ⟨v2', v3', G2, ws2, rfl, X2, g2, hf2, aw2⟩
      refine ⟨_, _, _, G2, ws2, rfl, X2, g2, hf2, ?_⟩
      rw [List.range_succ, List.flatMap_append, List.flatMap_cons, List.flatMap_nil, List.append_nil]
      have e : ((((ds.length - i) / 2 + 1 : Nat) : Int) - 1).toNat = (ds.length - i) / 2 := by omega
      rw [e] at aw2
      exact aw2
  · rintro σ H' ⟨v1, v2, v3, G', ws, rfl, X1, g1, hf1, aw⟩
    refine ⟨_, rfl, kQ G' H' f ws X1 hf hf1 ?_⟩
    rw [loops_rows]
    rw [Int.toNat_natCast, hlen] at aw
    exact aw
def tripN (x : Nat × Nat × Nat) : List Int := [Vamacb.int x.1, Vamacb.int x.2.1, Vamacb.int x.2.2]
theorem ok_loops (T : Txt K mg A) : Okf P w K mg base CX0 8 A.f_Recording_loops ["self"] (spCall0 A .loops) := by
  have G_plain_loops := ok_plain_loops (P := P) (w := w) (base := base) T
  obtain ⟨fd, F, b⟩ := T.d_Recording_loops
  refine ⟨fd, F.ok sc_Recording_loops (fun vs H Q E h => ?_) (fun cdv AA outer s H vs Q E hr h => ?_), b, F.kp⟩
  · obtain ⟨a, l, ds, rfl, _⟩ := h
    rfl
  obtain ⟨a, l, ds, rfl, hR, kE, kQ⟩ := h
  refine ⟨_, (pss_cons (ps_set (i := 1) sc_Recording_loops.nd rfl (Or.inl rfl) (call_f G_plain_loops (hr.mono (by omega)) rfl T.g_plain_loops pass0 (pa_cons (pe_fld (pv 0) rfl) pa_nil)))
      (pss_cons (ps_set (i := 2) sc_Recording_loops.nd rfl (Or.inl rfl) (pe_lst (pa_cons (pe_callB call_len_seq (by rfl) T.z_len PySem.boot_len (pa_cons (pv 1) pa_nil)) pa_nil)))
      (pss_cons (ps_for PassesOwn.never rfl (pi_list (pv 1)) (pg_name (i := 3) sc_Recording_loops.nd rfl (Or.inl rfl)) (pss_one (ps_expr (pe_bm PySem.F.plainAttrs_list PySem.F.slot_list_extend PySem.F.type_list_extend mt_extendT (pv 2) (pa_cons (pv 3) pa_nil)))))
      (pss_one (ps_ret (pv 2)))))), ?_⟩
  have est : Vamacb.step ⟨ds⟩ .loops = (⟨ds⟩, Vamacb.int (Vamacb.loopsOf ds).length :: (Vamacb.loopsOf ds).flatMap tripN) := rfl
  rw [est] at kQ
  obtain ⟨dx, vs0, r1, r2, r3, r4, r5⟩ := id hR
  refine ⟨_, rfl, a, _, dx, _, _, rfl, r1, T.cl_Recording, T.na_Recording_deeds, rec_deeds, H, l, ds, rfl, Same.refl _, ⟨vs0, r2, r3⟩, r4, fun G1 H1 f ws x1 nf hf aw => ?_⟩
  have few : (Vamacb.loopsOf ds).length ≤ 14 * 14 := by
    rw [loops_rows]
    exact Nat.le_trans (loopRows_len ds ds.length 0).1 (Nat.mul_le_mul r4 r4)
  generalize Vamacb.loopsOf ds = xs at aw kQ few
  have hlen := aw.length
  -- numbers = [len(found)]
  refine ⟨_, rfl, f, _, rfl, .inl (SqL.of hf), (by show 1 ≤ sizeLine; decide), fun n hn => ?_⟩
  have gn : G1 n = none := x1.sub.free hn
  have E1 : Ext H H G1 (upd H1 n (.lst [.int (ws.length : Int)])) none_ := x1.trans (Ext.open_ x1.sub hn)
  have nn : H n = none := x1.free hn
  have hf' : upd H1 n (.lst [.int (ws.length : Int)]) f = some (.lst ws) := same_new hn _ _ hf
  have nfn : f ≠ n := ne_of_none hf hn
  have tl : ∀ i, ((xs.take i).flatMap tripN).length ≤ 588 := fun i => by
    have h1 : ∀ ys : List (Nat × Nat × Nat), (ys.flatMap tripN).length = 3 * ys.length := fun ys => by
      induction ys with
      | nil => rfl
      | cons y ys ih =>
        rw [List.flatMap_cons, List.length_append, ih, List.length_cons]
        show 3 + _ = _
        omega
    rw [h1, List.length_take]
    omega
  refine ⟨_, rfl, f, rfl, ⟨_, SqL.of hf'⟩, for_list (K := K) (a := f) (xs := ws) (fun i σ H' => ∃ (v : Option V), σ = [some (.ref a), some (.ref f), some (.ref n), v] ∧ Ext H H G1 H' none_ ∧ H' f = some (.lst ws) ∧ H' n = some (.lst (((xs.length : Int) :: (xs.take i).flatMap tripN).map V.int)))
    ⟨none, rfl, E1, hf', by rw [upd_same, List.take_zero, hlen]; rfl⟩ ?_ ?_ ?_⟩
  · rintro i σ H' _ ⟨v, rfl, X1, hf1, _⟩
    exact SqL.of hf1
  · rintro i y σ H' hi ⟨v, rfl, X1, hf1, hl1⟩
    obtain ⟨x, hx, ⟨t, rfl, ft⟩⟩ := aw.get hi
    have fm := flatMap_take_succ tripN hx
    have tli := tl i
    refine ⟨_, rfl, .inl ⟨rfl, _, SqL.of hl1⟩, _, rfl, n, t, _, _, rfl, rfl, hl1, SqT.of (X1.sub _ _ ft), small (by rw [List.length_map, List.length_cons]; show _ + 3 ≤ 1000; omega), ?_⟩
    refine ⟨some (.ref t), rfl, X1.put nn gn, by rw [upd_ne nfn]; exact hf1, ?_⟩
    rw [upd_same, fm, ← List.cons_append, List.map_append]
    rfl
  · rintro σ H' ⟨v, rfl, X1, hf1, hl1⟩
    refine ⟨_, rfl, ?_⟩
    rw [hlen, List.take_length] at hl1
    exact kQ (refusal_pos (Int.natCast_nonneg _)) H' n (After.same X1.same hR) nn hl1
end
end Lf

set_option Elab.async false
set_option linter.all false
set_option maxRecDepth 100000
set_option maxHeartbeats 4000000
/-! # next -/
namespace Lf
open PySem PySem.Spec PyProof.Rows L2
open VamacBase (Deed Prog)

section
variable {P : Program} {w : World} {K : PySem.W.Frag} {mg : Str → Option Value} {base : Heap} {A : Ad}
theorem ok_Guess_init (T : Txt K mg A) : Okf P w K mg base CX0 1 A.f_Guess_init ["self", "period", "tail", "deed"] (spInit A.c_Guess ["period", "tail", "deed"]) := by
  obtain ⟨fd, F, b⟩ := T.d_Guess_init
  refine ⟨fd, F.ok sc_Guess_init (fun vs H Q E h => ?_) (fun cdv AA outer s H vs Q E hr h => ?_), b, F.kp⟩
  · obtain ⟨p, dx, ws, rfl, hl, _⟩ := h
    exact congrArg (· + 1) hl
  obtain ⟨p, dx, ws, rfl, hl, hp, q⟩ := h
  match ws, hl with
  | [v1, v2, v3], _ =>
  refine ⟨_, (pss_cons (ps_fld (pv 0) (pv 1) rfl)
      (pss_cons (ps_fld (pv 0) (pv 2) rfl)
      (pss_one (ps_fld (pv 0) (pv 3) rfl)))), ?_⟩
  refine ⟨_, rfl, _, rfl, p, _, dx, _, rfl, hp, T.cl_Guess, T.na_Guess_period, (by show 0 < 1000; decide), ?_⟩
  refine ⟨_, rfl, _, rfl, p, _, dx, _, rfl, upd_same, T.cl_Guess, T.na_Guess_tail, (by show 1 < 1000; decide), ?_⟩
  refine ⟨_, rfl, _, rfl, p, _, dx, _, rfl, upd_same, T.cl_Guess, T.na_Guess_deed, (by show 2 < 1000; decide), ?_⟩
  rw [upd_upd, upd_upd]
  exact q
def spGoes : Sp := fun vs H Q _ => ∃ (G : Hp) (l : Addr) (pl pe : Int) (ds : List Deed) (p m : Nat), vs = [.ref l, .int pl, .int pe] ∧ pl = (p : Nat) ∧ pe = (m : Nat) ∧ Same G H ∧ DeedsAt G l ds ∧ p < ds.length ∧
  ∀ (H' : Hp), Ext G H G H' none_ → (GA ds p m → Q (.bl true) H') ∧ (¬ GA ds p m → Q (.bl false) H')
theorem ok_goes_along (T : Txt K mg A) : Okf P w K mg base CX0 4 A.f_goes_along ["deeds", "place", "period"] spGoes := by
  have G_step_between := ok_step_between (P := P) (w := w) (base := base) T
  obtain ⟨fd, F, b⟩ := T.d_goes_along
  refine ⟨fd, F.ok sc_goes_along (fun vs H Q E h => ?_) (fun cdv AA outer s H vs Q E hr h => ?_), b, F.kp⟩
  · obtain ⟨G, l, pl, pe, ds, p, m, rfl, _⟩ := h
    rfl
  obtain ⟨G, l, pl, pe, ds, p, m, rfl, hpl, hpe, hS, ⟨ws, h1, a1⟩, hp, kQ⟩ := h
  refine ⟨_, (pss_cons (ps_set (i := 3) sc_goes_along.nd rfl (Or.inl rfl) (pe_op op_add (pv 1) (pv 2)))
      (pss_cons (ps_if (pt_cmpR op_ge (pv 3) (pe_callB call_len_seq (by rfl) T.z_len PySem.boot_len (pa_cons (pv 0) pa_nil)) (nomark _)) (pss_one (ps_ret pe_bl)) pss_nil)
      (pss_cons (ps_set (i := 4) sc_goes_along.nd rfl (Or.inl rfl) (call_f G_step_between (hr.mono (by omega)) rfl T.g_step_between pass0 (pa_cons (pe_ix ix_list (pv 0) (pv 1) (fun _ _ => rfl)) (pa_cons (pe_ix ix_list (pv 0) (pv 3) (fun _ _ => rfl)) pa_nil))))
      (pss_cons (ps_if (pt_cmpR op_isN (pv 4) pe_non (nomark _)) (pss_one (ps_ret pe_bl)) pss_nil)
      (pss_cons (ps_if (pt_cmpR op_ge (pe_op op_add (pv 3) (pv 2)) (pe_callB call_len_seq (by rfl) T.z_len PySem.boot_len (pa_cons (pv 0) pa_nil)) (nomark _)) (pss_one (ps_ret pe_bl)) pss_nil)
      (pss_one (ps_ret (pe_cmpR op_eq (pv 4) (call_f G_step_between (hr.mono (by omega)) rfl T.g_step_between pass0 (pa_cons (pe_ix ix_list (pv 0) (pv 3) (fun _ _ => rfl)) (pa_cons (pe_ix ix_list (pv 0) (pe_op op_add (pv 3) (pv 2)) (fun _ _ => rfl)) pa_nil))) (nomark _))))))))), ?_⟩
  have hlen := a1.length
  have look : ∀ {H' : Hp}, Ext G H G H' none_ → SqL K H' l ws := fun X => SqL.of (X.sub _ _ h1)
  have X0 : Ext G H G H none_ := Ext.refl hS
  refine ⟨_, rfl, _, rfl, _, _, rfl, rfl, ?_⟩
  refine ⟨_, rfl, _, rfl, l, _, rfl, .inl (look X0), _, _, rfl, rfl, _, rfl, ?_⟩
  refine if_dec (fun c => ?_) (fun c => ?_)
  · refine (kQ H X0).1 fun a b ha hb => ?_
    have := (List.getElem?_eq_some_iff.mp hb).1
    omega
  · have hl1 : p + m < ds.length := by omega
    obtain ⟨da, hda⟩ : ∃ d, ds[p]? = some d := ⟨_, List.getElem?_eq_getElem hp⟩
    obtain ⟨db, hdb⟩ : ∃ d, ds[p + m]? = some d := ⟨_, List.getElem?_eq_getElem hl1⟩
    obtain ⟨va, ga, Da⟩ := a1.get' hda
    obtain ⟨vb, gb, Db⟩ := a1.get' hdb
    -- step = step_between(deeds[place], deeds[later])
    refine ⟨_, rfl, _, rfl, l, ws, _, va, rfl, rfl, look X0, atI_ok (by omega) (by rw [hpl, Int.toNat_natCast]; exact ga), _, rfl, _, rfl, l, ws, _, vb, rfl, rfl, look X0, atI_ok (by omega) (by rw [show (pl + pe).toNat = p + m by omega]; exact gb), G, va, vb, da, db, rfl, hS, Da, Db, fun H1 x1 => ?_⟩
    refine ⟨_, rfl, rfl, _, rfl, ?_⟩
    cases es : stepB da db with
    | none =>
      refine if_true_of rfl ?_
      refine (kQ H1 x1).2 fun z => ?_
      obtain ⟨st, h, _⟩ := z da db hda hdb
      rw [es] at h
      cases h
    | some st =>
      refine if_false_of rfl ?_
      refine ⟨_, rfl, _, rfl, _, _, rfl, rfl, _, rfl, l, _, rfl, .inl (look x1), _, _, rfl, rfl, _, rfl, ?_⟩
      refine if_dec (fun c2 => ?_) (fun c2 => ?_)
      · refine (kQ H1 x1).1 fun a b ha hb => ?_
        rw [hda] at ha
        rw [hdb] at hb
        cases ha
        cases hb
        refine ⟨st, es, fun y hy => ?_⟩
        have := (List.getElem?_eq_some_iff.mp hy).1
        omega
      · have hl2 : p + m + m < ds.length := by omega
        obtain ⟨dc, hdc⟩ : ∃ d, ds[p + m + m]? = some d := ⟨_, List.getElem?_eq_getElem hl2⟩
        obtain ⟨vc, gc, Dc⟩ := a1.get' hdc
        refine ⟨_, rfl, _, rfl, _, rfl, l, ws, _, vb, rfl, rfl, look x1, atI_ok (by omega) (by rw [show (pl + pe).toNat = p + m by omega]; exact gb), _, rfl, _, rfl, _, rfl, _, _, rfl, rfl, l, ws, _, vc, rfl, rfl, look x1, atI_ok (by omega) (by rw [show (pl + pe + pe).toNat = p + m + m by omega]; exact gc), G, vb, vc, db, dc, rfl, x1.sub, Db, Dc, fun H2 x2 => ?_⟩
        have X2 := x1.trans x2
        by_cases e2 : stepB db dc = some st
        · rw [e2]
          refine ⟨rfl, ?_⟩
          have : decide (optV (some st) = optV (some st)) = true := decide_eq_true rfl
          rw [this]
          refine (kQ H2 X2).1 fun a b ha hb => ?_
          rw [hda] at ha
          rw [hdb] at hb
          cases ha
          cases hb
          refine ⟨st, es, fun y hy => ?_⟩
          rw [hdc] at hy
          cases hy
          exact e2
        · refine ⟨by cases stepB db dc <;> rfl, ?_⟩
          have : decide (optV (some st) = optV (stepB db dc)) = false := decide_eq_false fun z => e2 (by
            cases q : stepB db dc with
            | none =>
              rw [q] at z
              cases z
            | some y =>
              rw [q] at z
              have := V.int.inj z
              rw [this])
          rw [this]
          refine (kQ H2 X2).2 fun z => ?_
          obtain ⟨st', z1, z2⟩ := z da db hda hdb
          rw [es] at z1
          cases z1
          exact e2 (z2 dc hdc)
def spTail : Sp := fun vs H Q _ => ∃ (G : Hp) (l : Addr) (pe : Int) (ds : List Deed) (m : Nat), vs = [.ref l, .int pe] ∧ pe = (m : Nat) ∧ 1 ≤ m ∧ Same G H ∧ DeedsAt G l ds ∧
  ∀ (H' : Hp), Ext G H G H' none_ → Q (.int (Vamacb.tailOf ds m : Nat)) H'
theorem ok_tail_of (T : Txt K mg A) : Okf P w K mg base CX0 5 A.f_tail_of ["deeds", "period"] spTail := by
  have G_goes_along := ok_goes_along (P := P) (w := w) (base := base) T
  obtain ⟨fd, F, b⟩ := T.d_tail_of
  refine ⟨fd, F.ok sc_tail_of (fun vs H Q E h => ?_) (fun cdv AA outer s H vs Q E hr h => ?_), b, F.kp⟩
  · obtain ⟨G, l, pe, ds, m, rfl, _⟩ := h
    rfl
  obtain ⟨G, l, pe, ds, m, rfl, hpe, hm, hS, D1, kQ⟩ := h
  refine ⟨_, (pss_cons (ps_set (i := 2) sc_tail_of.nd rfl (Or.inl rfl) (pe_callB call_len_seq (by rfl) T.z_len PySem.boot_len (pa_cons (pv 0) pa_nil)))
      (pss_cons (ps_while PassesOwn.never (PW.pt (pw_and (pt_cmpR op_gt (pv 2) pe_int (nomark _)) (pw_and1 (pt_val (call_f G_goes_along (hr.mono (by omega)) rfl T.g_goes_along pass0 (pa_cons (pv 0) (pa_cons (pe_op op_sub (pv 2) pe_int) (pa_cons (pv 1) pa_nil)))))))) (pss_one (ps_set (i := 2) sc_tail_of.nd rfl (Or.inl rfl) (pe_op op_sub (pv 2) pe_int))))
      (pss_one (ps_ret (pe_op op_sub (pe_callB call_len_seq (by rfl) T.z_len PySem.boot_len (pa_cons (pv 0) pa_nil)) (pv 2)))))), ?_⟩
  obtain ⟨ws, h1, a1⟩ := id D1
  have hlen := a1.length
  refine ⟨_, rfl, l, _, rfl, .inl (SqL.of (hS _ _ h1)), ?_⟩
  refine ⟨fun n σ H' => ∃ (i : Int), i = (n : Nat) ∧ σ = [some (.ref l), some (.int pe), some (.int i)] ∧ Ext G H G H' none_ ∧ n ≤ ds.length ∧ ∀ p, n ≤ p → p < ds.length → GA ds p m, ⟨ds.length, _, rfl, by rw [hlen]; rfl, Ext.refl hS, Nat.le_refl _, fun p h1 h2 => absurd h2 (by omega)⟩, ?_⟩
  rintro n σ H' ⟨i, hi, rfl, X1, hn, hall⟩
  have fin : ∀ H2, Ext G H G H2 none_ → (∀ q, n = q + 1 → ¬ GA ds q m) → Q (.int ((ws.length : Int) - i)) H2 := fun H2 X2 hno => by
    have := kQ H2 X2
    rw [tail_at hm hn hall hno] at this
    rw [show ((ws.length : Int) - i) = ((ds.length - n : Nat) : Int) by omega]
    exact this
  refine ⟨_, rfl, _, _, rfl, rfl, _, rfl, ?_⟩
  refine if_dec (fun c => ?_) (fun c => ?_)
  · obtain ⟨q, rfl⟩ : ∃ q, n = q + 1 := ⟨n - 1, by omega⟩
    refine ⟨_, rfl, _, rfl, _, _, rfl, rfl, _, rfl, G, l, _, _, ds, q, m, rfl, by omega, hpe, X1.sub, D1, by omega, fun H2 x2 => ⟨fun ga => ⟨_, rfl, ?_⟩, fun nga => ⟨_, rfl, ?_⟩⟩⟩
    · refine iteT ⟨fun σ' H3 => σ' = [some (.ref l), some (.int pe), some (.int (i - 1))] ∧ Ext G H G H3 none_, ?_, ?_⟩
      · rintro σ' H3 ⟨rfl, X3⟩
        refine ⟨q, Nat.lt_succ_self _, i - 1, by omega, rfl, X3, by omega, fun p p1 p2 => ?_⟩
        by_cases z : p = q
        · rw [z]
          exact ga
        · exact hall p (by omega) p2
      · exact ⟨_, rfl, _, _, rfl, rfl, rfl, X1.trans x2⟩
    · refine iteF ?_
      refine ⟨_, rfl, l, _, rfl, .inl (SqL.of ((X1.trans x2).sub _ _ h1)), _, rfl, _, _, rfl, rfl, ?_⟩
      exact fin H2 (X1.trans x2) fun q' e => by
        have : q' = q := by omega
        rw [this]
        exact nga
  · refine ⟨_, rfl, l, _, rfl, .inl (SqL.of (X1.sub _ _ h1)), _, rfl, _, _, rfl, rfl, ?_⟩
    exact fin H' X1 fun q e => by omega
def spCounts : Sp := fun vs H Q _ => ∃ (pe ta : Int) (m t : Nat), vs = [.int pe, .int ta] ∧ pe = (m : Nat) ∧ ta = (t : Nat) ∧ m ≤ 100 ∧ t ≤ 100 ∧ Q (.bl (decide (m < t) && decide (3 * m ≤ 2 * t))) H
theorem ok_does_count (T : Txt K mg A) : Okf P w K mg base CX0 1 A.f_does_count ["period", "tail"] spCounts := by
  obtain ⟨fd, F, b⟩ := T.d_does_count
  refine ⟨fd, F.ok sc_does_count (fun vs H Q E h => ?_) (fun cdv AA outer s H vs Q E hr h => ?_), b, F.kp⟩
  · obtain ⟨pe, ta, m, t, rfl, _⟩ := h
    rfl
  obtain ⟨pe, ta, m, t, rfl, hpe, hta, hm, ht, q⟩ := h
  refine ⟨_, (pss_one (ps_ret (pe_and (pe_cmpR op_gt (pv 1) (pv 0) (nomark _)) (pe_one (pe_cmpR op_ge (pe_op op_mul pe_int (pv 1)) (pe_op op_mul pe_int (pv 0)) (nomark _)))))), ?_⟩
  refine ⟨_, rfl, _, rfl, _, _, rfl, rfl, _, rfl, ?_⟩
  refine if_dec (fun c => ?_) (fun c => ?_)
  · refine ⟨_, rfl, _, _, rfl, rfl, .inl ⟨by decide, by decide⟩, _, rfl, _, _, rfl, rfl, .inl ⟨by decide, by decide⟩, _, _, rfl, rfl, ?_⟩
    rw [decide_eq_true (show m < t by omega), Bool.true_and] at q
    have e : decide (2 * ta ≥ 3 * pe) = decide (3 * m ≤ 2 * t) := by
      by_cases z : 3 * m ≤ 2 * t
      · rw [decide_eq_true z, decide_eq_true (by omega)]
      · rw [decide_eq_false z, decide_eq_false (by omega)]
    first
      | exact (by rw [← e] at q; exact q)
      | (rw [← e] at q; exact q)
  · rw [decide_eq_false (show ¬ m < t by omega), Bool.false_and] at q
    exact q
theorem num_le {d : Deed} (h : VamacBase.okDeed d = true) : -999 ≤ VamacBase.numberOf d ∧ VamacBase.numberOf d ≤ 999 := by
  cases d with
  | write f v =>
    have h' : (VamacBase.okField f && VamacBase.okValue v) = true := h
    rw [Bool.and_eq_true] at h'
    exact value_le h'.2
  | add f v =>
    have h' : (VamacBase.okField f && VamacBase.okValue v) = true := h
    rw [Bool.and_eq_true] at h'
    exact value_le h'.2
  | find f v =>
    have h' : (VamacBase.okField f && VamacBase.okValue v) = true := h
    rw [Bool.and_eq_true] at h'
    exact value_le h'.2
  | _ => exact ⟨by show (-999 : Int) ≤ 0; decide, by show (0 : Int) ≤ 999; decide⟩
def spBehind : Sp := fun vs H Q _ => ∃ (G : Hp) (l : Addr) (pe ta : Int) (ds : List Deed) (m t : Nat), vs = [.ref l, .int pe, .int ta] ∧ pe = (m : Nat) ∧ ta = (t : Nat) ∧ 1 ≤ m ∧ m < t ∧ t ≤ ds.length ∧ (∀ d ∈ ds, VamacBase.okDeed d = true) ∧ Same G H ∧ DeedsAt G l ds ∧
  ∀ (G' H' : Hp) (v : V) (d : Deed), Ext G H G' H' none_ → DeedAt G' v d → Vamacb.nextOf (ds.drop (ds.length - t)) m = some d → Q v H'
theorem ok_deed_behind (T : Txt K mg A) : Okf P w K mg base CX0 3 A.f_deed_behind ["deeds", "period", "tail"] spBehind := by
  have G_number_of := ok_number_of (P := P) (w := w) (base := base) T
  have G_deed_at_round := ok_deed_at_round (P := P) (w := w) (base := base) T
  obtain ⟨fd, F, b⟩ := T.d_deed_behind
  refine ⟨fd, F.ok sc_deed_behind (fun vs H Q E h => ?_) (fun cdv AA outer s H vs Q E hr h => ?_), b, F.kp⟩
  · obtain ⟨G, l, pe, ta, ds, m, t, rfl, _⟩ := h
    rfl
  obtain ⟨G, l, pe, ta, ds, m, t, rfl, hpe, hta, hm, hmt, ht, hok, hS, ⟨ws, h1, a1⟩, kQ⟩ := h
  refine ⟨_, (pss_cons (ps_set (i := 3) sc_deed_behind.nd rfl (Or.inl rfl) (pe_ix ix_list (pv 0) (pe_op op_sub (pe_callB call_len_seq (by rfl) T.z_len PySem.boot_len (pa_cons (pv 0) pa_nil)) (pv 1)) (fun _ _ => rfl)))
      (pss_cons (ps_if (pt_cmpR op_lt (pv 2) (pe_op op_mul pe_int (pv 1)) (nomark _)) (pss_one (ps_ret (pv 3))) pss_nil)
      (pss_cons (ps_set (i := 4) sc_deed_behind.nd rfl (Or.inl rfl) (pe_op op_sub (call_f G_number_of (hr.mono (by omega)) rfl T.g_number_of pass0 (pa_cons (pv 3) pa_nil)) (call_f G_number_of (hr.mono (by omega)) rfl T.g_number_of pass0 (pa_cons (pe_ix ix_list (pv 0) (pe_op op_sub (pe_callB call_len_seq (by rfl) T.z_len PySem.boot_len (pa_cons (pv 0) pa_nil)) (pe_op op_mul pe_int (pv 1))) (fun _ _ => rfl)) pa_nil))))
      (pss_one (ps_ret (call_f G_deed_at_round (hr.mono (by omega)) rfl T.g_deed_at_round pass0 (pa_cons (pv 3) (pa_cons (pv 4) (pa_cons pe_int pa_nil))))))))), ?_⟩
  have hlen := a1.length
  have look : SqL K H l ws := SqL.of (hS _ _ h1)
  obtain ⟨x, hx⟩ : ∃ d, ds[ds.length - m]? = some d := ⟨_, List.getElem?_eq_getElem (by omega)⟩
  obtain ⟨vx, gx, Dx⟩ := a1.get' hx
  obtain ⟨n1, n2⟩ := next_at hm hmt ht hx
  -- earlier = deeds[len(deeds) - period]
  refine ⟨_, rfl, _, rfl, l, _, rfl, .inl look, _, rfl, _, _, rfl, rfl, l, ws, _, vx, rfl, rfl, look, atI_ok (by omega) (by rw [show ((ws.length : Int) - pe).toNat = ds.length - m by omega]; exact gx), ?_⟩
  refine ⟨_, rfl, _, rfl, _, _, rfl, rfl, .inl ⟨by decide, by decide⟩, _, _, rfl, rfl, _, rfl, ?_⟩
  refine if_dec (fun c => ?_) (fun c => ?_)
  · exact ⟨_, rfl, kQ G H vx x (Ext.refl hS) Dx (n1 (by omega))⟩
  · obtain ⟨y, hy⟩ : ∃ d, ds[ds.length - 2 * m]? = some d := ⟨_, List.getElem?_eq_getElem (by omega)⟩
    obtain ⟨vy, gy, Dy⟩ := a1.get' hy
    have bx := num_le (hok x (List.mem_of_getElem? hx))
    have bY := num_le (hok y (List.mem_of_getElem? hy))
    refine ⟨_, rfl, G, vx, x, rfl, hS, Dx, _, rfl, _, rfl, l, _, rfl, .inl look, _, rfl, _, _, rfl, rfl, .inl ⟨by decide, by decide⟩, _, _, rfl, rfl, l, ws, _, vy, rfl, rfl, look, atI_ok (by omega) (by rw [show ((ws.length : Int) - 2 * pe).toNat = ds.length - 2 * m by omega]; exact gy), G, vy, y, rfl, hS, Dy, _, _, rfl, rfl, ?_⟩
    refine ⟨_, rfl, _, rfl, G, vx, x, _, _, rfl, hS, Dx, ⟨by omega, by omega⟩, fun G1 H1 v1 x1 D1 => kQ G1 H1 v1 _ x1 D1 (n2 (by omega) y hy)⟩
def guF (g : Vamacb.Guess) (v : V) : List (Str × V) := [("period", .int (g.period : Int)), ("tail", .int (g.tail : Int)), ("deed", v)]
def spGuess (A : Ad) : Sp := fun vs H Q _ => ∃ (G : Hp) (l : Addr) (ds : List Deed), vs = [.ref l] ∧ Same G H ∧ DeedsAt G l ds ∧ ds.length ≤ 14 ∧ (∀ d ∈ ds, VamacBase.okDeed d = true) ∧
  (Vamacb.guess ds = none → ∀ G' H', Ext G H G' H' none_ → Q .non H') ∧
  (∀ g, Vamacb.guess ds = some g → ∀ (G' H' : Hp) (p dx : Addr) (v : V), Ext G H G' H' none_ → G' p = some (.ins A.c_Guess dx (guF g v)) → DeedAt G' v g.deed → Q (.ref p) H')
theorem ok_guess_next (T : Txt K mg A) : Okf P w K mg base CX0 6 A.f_guess_next ["deeds"] (spGuess A) := by
  have G_tail_of := ok_tail_of (P := P) (w := w) (base := base) T
  have G_does_count := ok_does_count (P := P) (w := w) (base := base) T
  have G_deed_behind := ok_deed_behind (P := P) (w := w) (base := base) T
  have G_Guess_init := ok_Guess_init (P := P) (w := w) (base := base) T
  obtain ⟨fd, F, b⟩ := T.d_guess_next
  refine ⟨fd, F.ok sc_guess_next (fun vs H Q E h => ?_) (fun cdv AA outer s H vs Q E hr h => ?_), b, F.kp⟩
  · obtain ⟨G, l, ds, rfl, _⟩ := h
    rfl
  obtain ⟨G, l, ds, rfl, hS, D1, hfew, hok, kN, kS⟩ := h
  refine ⟨_, (pss_cons (ps_set (i := 1) sc_guess_next.nd rfl (Or.inl rfl) pe_int)
      (pss_cons (ps_set (i := 2) sc_guess_next.nd rfl (Or.inl rfl) pe_int)
      (pss_cons (ps_for PassesOwn.never rfl (pi_range2 rfl T.z_range (pa_cons pe_int (pa_cons (pe_callB call_len_seq (by rfl) T.z_len PySem.boot_len (pa_cons (pv 0) pa_nil)) pa_nil))) (pg_name (i := 3) sc_guess_next.nd rfl (Or.inl rfl)) (pss_cons (ps_set (i := 4) sc_guess_next.nd rfl (Or.inl rfl) (call_f G_tail_of (hr.mono (by omega)) rfl T.g_tail_of pass0 (pa_cons (pv 0) (pa_cons (pv 3) pa_nil))))
      (pss_one (ps_if (PW.pt (pw_and (pt_val (call_f G_does_count (hr.mono (by omega)) rfl T.g_does_count pass0 (pa_cons (pv 3) (pa_cons (pv 4) pa_nil)))) (pw_and1 (pt_cmpR op_gt (pv 4) (pv 2) (nomark _))))) (pss_cons (ps_set (i := 1) sc_guess_next.nd rfl (Or.inl rfl) (pv 3))
      (pss_one (ps_set (i := 2) sc_guess_next.nd rfl (Or.inl rfl) (pv 4)))) pss_nil))))
      (pss_cons (ps_if (pt_cmpR op_eq (pv 1) pe_int (nomark _)) (pss_one (ps_ret pe_non)) pss_nil)
      (pss_one (ps_ret (call_c T.mk_Guess G_Guess_init (hr.mono (by omega)) rfl T.g_Guess pass0 (pa_cons (pv 1) (pa_cons (pv 2) (pa_cons (call_f G_deed_behind (hr.mono (by omega)) rfl T.g_deed_behind pass0 (pa_cons (pv 0) (pa_cons (pv 1) (pa_cons (pv 2) pa_nil)))) pa_nil)))))))))), ?_⟩
  obtain ⟨ws, h1, a1⟩ := id D1
  have hlen := a1.length
  refine ⟨_, rfl, l, _, rfl, .inl (SqL.of (hS _ _ h1)), 1, _, rfl, ⟨by decide, by decide, by omega, by omega⟩, for_range (lo := 1) (n := ((ws.length : Int) - 1).toNat) (fun i σ H' => ∃ (v3 v4 : Option V) (bi ti : Int) (b t : Nat), bi = (b : Nat) ∧ ti = (t : Nat) ∧ σ = [some (.ref l), some (.int bi), some (.int ti), v3, v4] ∧ Ext G H G H' none_ ∧ Best (Vamacb.tailOf ds) (countTo ds i) b t)
    ⟨none, none, 0, 0, 0, 0, rfl, rfl, rfl, Ext.refl hS, Best.nil _⟩ ?_ ?_⟩
  · rintro i σ H' hi ⟨v3, v4, bi, ti, b, t, hb, ht, rfl, X1, B1⟩
    refine ⟨_, rfl, _, rfl, G, l, _, ds, i + 1, rfl, by omega, by omega, X1.sub, D1, fun H2 x2 => ?_⟩
    have X2 := X1.trans x2
    have tle := tail_le ds (i + 1)
    refine ⟨_, rfl, _, rfl, _, _, i + 1, Vamacb.tailOf ds (i + 1), rfl, by omega, rfl, by omega, by omega, _, rfl, ?_⟩
    have esh : (decide (i + 1 < Vamacb.tailOf ds (i + 1)) && decide (3 * (i + 1) ≤ 2 * Vamacb.tailOf ds (i + 1))) = Vamacb.shows ds (i + 1) := rfl
    rw [esh]
    have ec := countTo_succ ds i
    cases hsh : Vamacb.shows ds (i + 1) with
    | true =>
      rw [hsh, if_pos rfl] at ec
      have pos : i + 1 < Vamacb.tailOf ds (i + 1) := by
        unfold Vamacb.shows at hsh
        rw [Bool.and_eq_true] at hsh
        exact of_decide_eq_true hsh.1
      refine iteT ?_
      refine ⟨_, rfl, _, rfl, _, _, rfl, rfl, _, rfl, ?_⟩
      refine if_dec (fun c => ?_) (fun c => ?_)
      · refine ⟨_, rfl, _, rfl, ?_⟩
        refine ⟨_, _, 1 + (i : Int), _, i + 1, Vamacb.tailOf ds (i + 1), by omega, rfl, rfl, X2, ?_⟩
        rw [ec]
        exact B1.more (by omega)
      · refine ⟨_, _, bi, ti, b, t, hb, ht, rfl, X2, ?_⟩
        rw [ec]
        exact B1.same (by omega) (by omega)
    | false =>
      rw [hsh, if_neg Bool.false_ne_true, List.append_nil] at ec
      refine iteF (iteF ?_)
      refine ⟨_, _, bi, ti, b, t, hb, ht, rfl, X2, ?_⟩
      rw [ec]
      exact B1
  · rintro σ H' ⟨v3, v4, bi, ti, b, t, hb, ht, rfl, X1, B1⟩
    rw [show ((ws.length : Int) - 1).toNat = ds.length - 1 by omega] at B1
    refine ⟨_, rfl, rfl, _, rfl, ?_⟩
    by_cases c : b = 0
    · subst c
      refine if_true_of (decide_eq_true (by rw [hb]; rfl)) ?_
      exact kN (guess_none B1) G H' X1
    · refine if_false_of (decide_eq_false fun z => by have := V.int.inj z; omega) ?_
      obtain ⟨g1, g2, g3⟩ := guess_some B1 c
      refine ⟨_, rfl, _, rfl, _, rfl, _, rfl, _, rfl, G, l, _, _, ds, b, t, rfl, hb, ht, by omega, g2, g3, hok, X1.sub, D1, fun G2 H2 v d x2 D2 e2 => ?_⟩
      have X2 := X1.trans x2
      refine fun x dx nx nd ne => made_of (ws := [.int bi, .int ti, v]) rfl ?_
      have X3 := X2.trans (Ext.made (C := A.c_Guess) (fs := [("period", .int bi), ("tail", .int ti), ("deed", v)]) X2.sub nx nd)
      rw [e2] at g1
      refine ⟨rfl, kS _ g1 _ _ x dx v X3 ?_ (D2.mono (same_new (X2.sub.free nx)))⟩
      rw [upd_same]
      unfold guF
      rw [hb, ht]
theorem ok_next_one (T : Txt K mg A) : Okf P w K mg base CX0 7 A.f_Recording_next_one ["self"] (spCall0 A .next) := by
  have G_guess_next := ok_guess_next (P := P) (w := w) (base := base) T
  obtain ⟨fd, F, b⟩ := T.d_Recording_next_one
  refine ⟨fd, F.ok sc_Recording_next_one (fun vs H Q E h => ?_) (fun cdv AA outer s H vs Q E hr h => ?_), b, F.kp⟩
  · obtain ⟨a, l, ds, rfl, _⟩ := h
    rfl
  obtain ⟨a, l, ds, rfl, hR, kE, kQ⟩ := h
  refine ⟨_, (pss_cons (ps_set (i := 1) sc_Recording_next_one.nd rfl (Or.inl rfl) (call_f G_guess_next (hr.mono (by omega)) rfl T.g_guess_next pass0 (pa_cons (pe_fld (pv 0) rfl) pa_nil)))
      (pss_cons (ps_if (pt_cmpR op_isN (pv 1) pe_non (nomark _)) (pss_one (ps_ret (pe_lst (pa_cons pe_int pa_nil)))) pss_nil)
      (pss_one (ps_ret (pe_op op_cat (pe_lst (pa_cons pe_int (pa_cons (pe_fld (pv 1) rfl) (pa_cons (pe_fld (pv 1) rfl) pa_nil)))) (pe_callTy call_list_of (by rfl) T.z_list (by decide +kernel) (pa_cons (pe_fld (pv 1) rfl) pa_nil))))))), ?_⟩
  have est : Vamacb.step ⟨ds⟩ .next = (⟨ds⟩, match Vamacb.guess ds with | none => [0] | some g => 1 :: Vamacb.int g.period :: Vamacb.int g.tail :: VamacBase.flatDeed g.deed) := rfl
  rw [est] at kQ
  obtain ⟨dx, vs0, r1, r2, r3, r4, r5⟩ := id hR
  refine ⟨_, rfl, a, _, dx, _, _, rfl, r1, T.cl_Recording, T.na_Recording_deeds, rec_deeds, H, l, ds, rfl, Same.refl _, ⟨vs0, r2, r3⟩, r4, r5, fun e G1 H1 x1 => ?_, fun g e G1 H1 p dp v x1 gp Dv => ?_⟩
  · rw [e] at kQ
    refine ⟨_, rfl, rfl, _, rfl, if_true_of rfl ?_⟩
    refine ⟨(by show 1 ≤ sizeLine; decide), fun t ht => ?_⟩
    exact kQ (refusal_pos (by decide)) _ t (After.same (x1.same.trans (same_new ht)) hR) (x1.free ht) upd_same
  · rw [e] at kQ
    refine ⟨_, rfl, rfl, _, rfl, if_false_of rfl ?_⟩
    have hp := x1.sub _ _ gp
    refine ⟨_, rfl, p, _, dp, _, _, rfl, hp, T.cl_Guess, T.na_Guess_period, lk_here, _, rfl, p, _, dp, _, _, rfl, hp, T.cl_Guess, T.na_Guess_tail, (lk_past (by decide +kernel)).trans lk_here, (by show 3 ≤ sizeLine; decide), fun t ht => ?_⟩
    have s2 := same_new (o := .lst [.int 1, .int (g.period : Int), .int (g.tail : Int)]) ht
    obtain ⟨q, rfl, hq⟩ := Dv
    refine ⟨_, rfl, p, _, dp, _, _, rfl, s2 _ _ hp, T.cl_Guess, T.na_Guess_deed, (lk_past (by decide +kernel)).trans ((lk_past (by decide +kernel)).trans lk_here), q, _, rfl, .inr (SqT.of (s2 _ _ (x1.sub _ _ hq))), fun u hu => ?_⟩
    have tu : t ≠ u := ne_of_none (upd_same) hu
    have hdl := flat_deed_le g.deed
    refine ⟨t, u, _, _, rfl, rfl, by rw [upd_ne tu]; exact upd_same, upd_same, small (by unfold deedV; rw [List.length_map]; simp only [List.length_cons, List.length_nil]; omega), fun z hz => ?_⟩
    have s3 := s2.trans ((same_new (o := .lst (deedV g.deed)) hu).trans (same_new (o := .lst ([.int 1, .int (g.period : Int), .int (g.tail : Int)] ++ deedV g.deed)) hz))
    refine kQ (refusal_pos (by decide)) _ z (After.same (x1.same.trans s3) hR) (x1.free ?_) upd_same
    have nz : upd (upd H1 t (.lst [.int 1, .int (g.period : Int), .int (g.tail : Int)])) u (.lst (deedV g.deed)) z = none := hz
    exact (s2.trans (same_new (o := .lst (deedV g.deed)) hu)).free nz
end
end Lf

set_option Elab.async false
set_option linter.all false
set_option maxRecDepth 100000
set_option maxHeartbeats 4000000
/-! # Tables -/
namespace Lf
open PySem PySem.Spec PyProof.Rows L2
open VamacBase (Deed Prog Table readTimes readValue readNat readTable whole)

/-! ### how a table lies: what is sealed (G) holds none of it -/
def tbF (L : Addr) (c v : Int) : List (Str × V) := [("rows", .ref L), ("cursor", .int c), ("clipboard", .int v)]
section
variable {L : Addr} {c v : Int}
theorem tb_rows : (tbF L c v).lookup ("rows" : Str) = some (.ref L) := lk_here
theorem tb_cursor : (tbF L c v).lookup ("cursor" : Str) = some (.int c) := (lk_past (by decide +kernel)).trans lk_here
theorem tb_clip : (tbF L c v).lookup ("clipboard" : Str) = some (.int v) := (lk_past (by decide +kernel)).trans ((lk_past (by decide +kernel)).trans lk_here)
theorem tb_setc {c' : Int} : putF "cursor" (.int c') (tbF L c v) = tbF L c' v := (put_past (by decide +kernel)).trans (congrArg _ put_here)
theorem tb_setv {v' : Int} : putF "clipboard" (.int v') (tbF L c v) = tbF L c v' := (put_past (by decide +kernel)).trans (congrArg _ ((put_past (by decide +kernel)).trans (congrArg _ put_here)))
end
theorem yes_of {Q : Bool → Hp → Prop} {σ : L2.St} {H : Hp} (h : Q true H) : tYes σ H Q := h
def RowH (G H : Hp) (v : V) (row : List Int) : Prop := ∃ p, v = .ref p ∧ H p = some (.lst (row.map V.int)) ∧ G p = none
structure TblAt (A : Ad) (G H : Hp) (a dx L : Addr) (rs : List V) (t : Table) : Prop where
  ins : H a = some (.ins A.c_Table dx (tbF L (t.at_ : Int) t.clip))
  ga : G a = none
  lst : H L = some (.lst rs)
  gl : G L = none
  nd : rs.Nodup
  rows : All2 (RowH G H) rs t.rows
theorem All2.imp_mem {α β : Type} {R S : α → β → Prop} : ∀ {l : List α} {m : List β}, (∀ a b, a ∈ l → b ∈ m → R a b → S a b) → All2 R l m → All2 S l m
  | _, _, _, .nil => .nil
  | _, _, k, .cons h t => .cons (k _ _ (List.mem_cons_self ..) (List.mem_cons_self ..) h) (imp_mem (fun a b ha hb => k a b (List.mem_cons_of_mem _ ha) (List.mem_cons_of_mem _ hb)) t)
theorem TblAt.keep {A : Ad} {G H H' : Hp} {a dx L : Addr} {rs : List V} {t : Table} (h : TblAt A G H a dx L rs t) (s : Same H H') : TblAt A G H' a dx L rs t :=
  ⟨s _ _ h.ins, h.ga, s _ _ h.lst, h.gl, h.nd, h.rows.imp fun _ _ ⟨p, e, q, g⟩ => ⟨p, e, s _ _ q, g⟩⟩
section
variable {P : Program} {w : World} {K : PySem.W.Frag} {mg : Str → Option Value} {base : Heap} {A : Ad}
theorem ok_Table_init (T : Txt K mg A) : Okf P w K mg base CX0 1 A.f_Table_init ["self", "rows", "cursor", "clipboard"] (spInit A.c_Table ["rows", "cursor", "clipboard"]) := by
  obtain ⟨fd, F, b⟩ := T.d_Table_init
  refine ⟨fd, F.ok sc_Table_init (fun vs H Q E h => ?_) (fun cdv AA outer s H vs Q E hr h => ?_), b, F.kp⟩
  · obtain ⟨p, dx, ws, rfl, hl, _⟩ := h
    exact congrArg (· + 1) hl
  obtain ⟨p, dx, ws, rfl, hl, hp, q⟩ := h
  match ws, hl with
  | [v1, v2, v3], _ =>
  refine ⟨_, (pss_cons (ps_fld (pv 0) (pv 1) rfl)
      (pss_cons (ps_fld (pv 0) (pv 2) rfl)
      (pss_one (ps_fld (pv 0) (pv 3) rfl)))), ?_⟩
  refine ⟨_, rfl, _, rfl, p, _, dx, _, rfl, hp, T.cl_Table, T.na_Table_rows, (by show 0 < 1000; decide), ?_⟩
  refine ⟨_, rfl, _, rfl, p, _, dx, _, rfl, upd_same, T.cl_Table, T.na_Table_cursor, (by show 1 < 1000; decide), ?_⟩
  refine ⟨_, rfl, _, rfl, p, _, dx, _, rfl, upd_same, T.cl_Table, T.na_Table_clipboard, (by show 2 < 1000; decide), ?_⟩
  rw [upd_upd, upd_upd]
  exact q
def spReadValue (A : Ad) : Sp := fun vs H Q E => ∃ (G : Hp) (a : Addr) (x : List Int), vs = [.ref a] ∧ Same G H ∧ Rdr A G H a x ∧
  (readValue x = none → E (.ref A.c_NotWhole) none H) ∧ ∀ z r, readValue x = some (z, r) → ∀ H', Ext G H G H' (· = a) → Rdr A G H' a r → Q (.int z) H'
theorem ok_read_value (T : Txt K mg A) : Okf P w K mg base (L2.CX P w) 2 A.f_read_value ["reader"] (spReadValue A) := by
  have G_Reader_take := ok_Reader_take (P := P) (w := w) (base := base) T
  obtain ⟨fd, F, b⟩ := T.d_read_value
  refine ⟨fd, F.okX sc_read_value (fun vs H Q E h => ?_) (fun cdv AA outer s H vs Q E hr h => ?_), b, F.kp⟩
  · obtain ⟨G, a, x, rfl, _⟩ := h
    rfl
  obtain ⟨G, a, x, rfl, hS, R1, kN, kS⟩ := h
  refine ⟨_, (pss_one (ps_ret (call_m (pv 0) T.cl_Reader T.me_Reader_take G_Reader_take (hr.mono (by omega)) (passes_call (takes_of rfl rfl rfl rfl) (fun _ _ _ _ h => h)) (pa_cons (pe_un un_neg (pe_glob (v := V.int 999) rfl T.i_MOST_NUMBER.choose_spec ⟨_, rfl⟩)) (pa_cons (pe_glob (v := V.int 999) rfl T.i_MOST_NUMBER.choose_spec ⟨_, rfl⟩) pa_nil))))), ?_⟩
  rw [value_take] at kN kS
  obtain ⟨dx2, fs2, l1, l2⟩ := R1.ins (m := "take") (by decide +kernel) (by decide +kernel)
  exact ⟨_, rfl, a, dx2, fs2, rfl, l1, l2, _, rfl, G, a, -999, 999, x, rfl, hS, R1, kN, kS⟩
def spWholeTable (A : Ad) : Sp := fun vs H Q E => ∃ (G : Hp) (n : Addr) (ns : List Int), vs = [.ref n] ∧ Same G H ∧ G n = some (.lst (ns.map V.int)) ∧
  (whole readTable ns = none → ∀ H', Ext G H G H' none_ → E (.ref A.c_NotWhole) none H') ∧
  ∀ t, whole readTable ns = some t → OkT t → ∀ (H' : Hp) (a dx L : Addr) (rs : List V), Ext G H G H' none_ → TblAt A G H' a dx L rs t → Q (.ref a) H'
theorem ok_whole_table (T : Txt K mg A) : Okf P w K mg base (L2.CX P w) 3 A.f_whole_table ["numbers"] (spWholeTable A) := by
  have G_Reader_init := ok_Reader_init (P := P) (w := w) (base := base) T
  have G_Reader_take := ok_Reader_take (P := P) (w := w) (base := base) T
  have G_Reader_finish := ok_Reader_finish (P := P) (w := w) (base := base) T
  have G_read_value := ok_read_value (P := P) (w := w) (base := base) T
  have G_Table_init := ok_Table_init (P := P) (w := w) (base := base) T
  obtain ⟨fd, F, b⟩ := T.d_whole_table
  refine ⟨fd, F.okX sc_whole_table (fun vs H Q E h => ?_) (fun cdv AA outer s H vs Q E hr h => ?_), b, F.kp⟩
  · obtain ⟨G, n, ns, rfl, _⟩ := h
    rfl
  obtain ⟨G, n, ns, rfl, hS, hn, kN, kS⟩ := h
  refine ⟨_, (pss_cons (ps_set (i := 1) sc_whole_table.nd rfl (Or.inr rfl) (call_c T.mk_Reader G_Reader_init (hr.mono (by omega)) rfl T.g_Reader pass0 (pa_cons (pv 0) pa_nil)))
      (pss_cons (ps_set (i := 2) sc_whole_table.nd rfl (Or.inl rfl) (pe_lst pa_nil))
      (pss_cons (ps_for (passes_of rfl) rfl (pi_range1 rfl T.z_range (pa_cons (call_m (pv 1) T.cl_Reader T.me_Reader_take G_Reader_take (hr.mono (by omega)) (passes_call (takes_of rfl rfl rfl rfl) (fun _ _ _ _ h => h)) (pa_cons pe_int (pa_cons (pe_glob (v := V.int 8) rfl T.i_MOST_ROWS.choose_spec ⟨_, rfl⟩) pa_nil))) pa_nil)) (pg_name (i := 3) sc_whole_table.nd rfl (Or.inl rfl)) (pss_one (ps_expr (pe_bm PySem.F.plainAttrs_list PySem.F.slot_list_append PySem.F.type_list_append mt_append (pv 2) (pa_cons (pe_lcX (own := [("field", 6)]) (g := gName 6) (tt := tYes) (takes_of rfl rfl rfl rfl) rfl sc_whole_table.nd (pi_range1 rfl T.z_range (pa_cons (pe_op op_add (pe_glob (v := V.int 2) rfl T.i_LAST_FIELD.choose_spec ⟨_, rfl⟩) pe_int) pa_nil)) (blkOk_by (own := [("field", 6)]) (N := ["numbers", "reader", "rows", "place", "cursor", "clipboard", "field"]) (sc := defScope s_whole_table) (by decide +kernel)) (fun _ _ _ _ _ _ => pg_name (i := 6) sc_whole_table.nd rfl (Or.inl rfl)) (fun _ _ _ _ _ _ => pts_nil) (fun _ _ _ _ _ _ hp => (call_f G_read_value (hr.mono (by omega)) rfl T.g_read_value hp (pa_cons (pv 1) pa_nil)))) pa_nil)))))
      (pss_cons (ps_set (i := 4) sc_whole_table.nd rfl (Or.inl rfl) (call_m (pv 1) T.cl_Reader T.me_Reader_take G_Reader_take (hr.mono (by omega)) (passes_call (takes_of rfl rfl rfl rfl) (fun _ _ _ _ h => h)) (pa_cons pe_int (pa_cons (pe_callB call_len_seq (by rfl) T.z_len PySem.boot_len (pa_cons (pv 2) pa_nil)) pa_nil))))
      (pss_cons (ps_set (i := 5) sc_whole_table.nd rfl (Or.inl rfl) (call_f G_read_value (hr.mono (by omega)) rfl T.g_read_value (passes_call (takes_of rfl rfl rfl rfl) (fun _ _ _ _ h => h)) (pa_cons (pv 1) pa_nil)))
      (pss_cons (ps_expr (call_m0 (pv 1) T.cl_Reader T.me_Reader_finish G_Reader_finish (hr.mono (by omega)) (passes_call (takes_of rfl rfl rfl rfl) (fun _ _ _ _ h => h))))
      (pss_one (ps_ret (call_c T.mk_Table G_Table_init (hr.mono (by omega)) rfl T.g_Table pass0 (pa_cons (pv 2) (pa_cons (pv 4) (pa_cons (pv 5) pa_nil)))))))))))), ?_⟩
  refine ⟨_, rfl, fun x dx nx nd ne => ⟨x, dx, _, rfl, upd_same, rfl, ?_⟩⟩
  rw [upd_upd]
  have E1 : Ext G H G (mkH H x dx A.c_Reader [("numbers", .ref n), ("place", .int 0)]) none_ := Ext.madeO hS nx nd
  have R1 := Rdr.new (A := A) (dx := dx) hS nx hn
  -- rows = []
  refine ⟨(by show 0 ≤ sizeLine; decide), fun l hl => ?_⟩
  have E2 := E1.trans (Ext.open_ (M := none_) (o := .lst []) E1.sub hl)
  have R2 := R1.upd_new (o := .lst []) hl
  have xl : x ≠ l := ne_of_none mkH_x hl
  have nl : H l = none := E1.free hl
  have gl : G l = none := hS.free nl
  -- reader.take(0, 8)
  obtain ⟨dx2, fs2, l1, l2⟩ := R2.ins (m := "take") (by decide +kernel) (by decide +kernel)
  refine ⟨_, rfl, x, dx2, fs2, rfl, l1, l2, G, x, 0, 8, ns, rfl, E2.sub, R2, fun e => kN (whole_none (table_none1 e)) _ E2, fun z r e1 H3 e3 R3 => ?_⟩
  have E3 : Ext G H G H3 none_ := E2.then_ e3 fun c q => .inr (q ▸ nx)
  have hz := take_le e1
  have h3l : H3 l = some (.lst []) := e3.keep _ _ upd_same fun q => xl q.symm
  refine ⟨z, rfl, by omega, by omega, for_range (lo := 0) (n := z.toNat) (fun i σ H' => ∃ (v : Option V) (vf : Option V) (rows : List (List Int)) (rs : List V) (r' : List Int), σ = [some (.ref n), some (.ref x), some (.ref l), v, none, none, vf] ∧ Ext G H G H' none_ ∧ Rdr A G H' x r' ∧ H' l = some (.lst rs) ∧ rs.Nodup ∧ All2 (RowH G H') rs rows ∧ rows.length = i ∧
    readTimes (readTimes readValue 3) z.toNat r = (readTimes (readTimes readValue 3) (z.toNat - i) r').map fun v => (rows ++ v.1, v.2)) ?_ ?_ ?_⟩
  · refine ⟨none, none, [], [], r, rfl, E3, R3, h3l, List.nodup_nil, .nil, rfl, ?_⟩
    show _ = (readTimes (readTimes readValue 3) z.toNat r).map fun v => v
    simp
  · rintro i σ H' hi ⟨v, vf, rows, rs, r', rfl, X1, R4, h4, nd4, a4, len, eq⟩
    obtain ⟨f1, f2⟩ := times_stepG eq hi
    -- rows.append([read_value(reader) for field in range(3)])
    refine ⟨_, rfl, .inl ⟨rfl, _, SqL.of h4⟩, _, _, rfl, rfl, _, rfl, by decide, by decide, fun D hD => ?_⟩
    have lD : l ≠ D := ne_of_none h4 hD
    have xD : x ≠ D := by
      obtain ⟨o, ho⟩ := R4.there
      exact ne_of_none ho hD
    have nD : H D = none := X1.free hD
    have gD : G D = none := hS.free nD
    have XD := X1.trans (Ext.open_ (M := none_) (o := .lst []) X1.sub hD)
    have row_ne : ∀ v row, v ∈ rs → RowH G H' v row → v ≠ .ref D := fun v row hv ⟨p, e, hp, _⟩ z => by
      rw [e] at z
      have := V.ref.inj z
      rw [this, hD] at hp
      cases hp
    refine lc_range (lo := 0) (n := 3) (fun j H5 => ∃ (vals : List Int) (r5 : List Int), Ext G H G H5 none_ ∧ Rdr A G H5 x r5 ∧ H5 l = some (.lst rs) ∧ H5 D = some (.lst (vals.map V.int)) ∧ All2 (RowH G H5) rs rows ∧ vals.length = j ∧
      readTimes readValue 3 r' = (readTimes readValue (3 - j) r5).map fun v => (vals ++ v.1, v.2)) ?_ ?_ ?_
    · refine ⟨[], r', XD, R4.upd_new hD, by rw [upd_ne lD]; exact h4, upd_same, a4.imp fun _ _ ⟨p, e, q, g⟩ => ⟨p, e, same_new hD _ _ q, g⟩, rfl, ?_⟩
      show _ = (readTimes readValue 3 r').map fun v => v
      simp
    · rintro j H5 hj ⟨vals, r5, X5, R5, h5l, h5D, a5, len5, eq5⟩
      obtain ⟨g1, g2⟩ := times_stepG eq5 hj
      refine ⟨rfl, ?_⟩
      refine yes_of ?_
      rw [if_pos rfl]
      refine ⟨_, rfl, G, x, r5, rfl, X5.sub, R5, fun e => kN (whole_none (table_none2 e1 (f1 (g1 e)))) H5 X5, fun y r6 e H6 x6 R6 => ?_⟩
      have X6 : Ext G H G H6 none_ := X5.then_ x6 fun c q => .inr (q ▸ nx)
      have h6l : H6 l = some (.lst rs) := x6.keep _ _ h5l fun q => xl q.symm
      have h6D : H6 D = some (.lst (vals.map V.int)) := x6.keep _ _ h5D fun q => xD q.symm
      refine ⟨_, h6D, small1000 (by rw [List.length_map]; omega), vals ++ [y], r6, X6.put nD gD, R6.upd_other xD, by rw [upd_ne lD]; exact h6l, by rw [upd_same, List.map_append]; rfl, ?_, by rw [List.length_append, len5]; rfl, g2 y r6 e⟩
      refine a5.imp_mem fun v row hv _ ⟨p, e, q, g⟩ => ⟨p, e, ?_, g⟩
      have pD : p ≠ D := fun z => by
        obtain ⟨row', _, hr'⟩ := a4.get (List.getElem?_eq_getElem (List.idxOf_lt_length_of_mem hv))
        have := row_ne v row' hv (by rw [List.getElem_idxOf] at hr'; exact hr')
        exact this (by rw [e, z])
      rw [upd_ne pD]
      refine x6.keep _ _ q fun z => ?_
      rw [z] at q
      obtain ⟨dx6, n6, ns6, i6, k6, _⟩ := R5
      rw [k6] at q
      cases q
    · rintro H5 ⟨vals, r5, X5, R5, h5l, h5D, a5, len5, eq5⟩
      rw [Nat.sub_self] at eq5
      have eq6 : readTimes readValue 3 r' = some (vals, r5) := by
        rw [eq5]
        show some (vals ++ [], r5) = _
        rw [List.append_nil]
      refine ⟨l, _, _, rfl, rfl, h5l, small1000 (by have := a4.length; omega), ?_⟩
      have ndD : (rs ++ [V.ref D]).Nodup := by
        rw [List.nodup_append]
        refine ⟨nd4, by simp, fun a ha b hb z => ?_⟩
        rw [List.mem_singleton.mp hb] at z
        obtain ⟨row', _, hr'⟩ := a4.get (List.getElem?_eq_getElem (List.idxOf_lt_length_of_mem ha))
        exact row_ne a row' ha (by rw [List.getElem_idxOf] at hr'; exact hr') z
      refine ⟨_, _, rows ++ [vals], rs ++ [.ref D], r5, rfl, X5.put nl gl, R5.upd_other xl, upd_same, ndD, ?_, by rw [List.length_append, len]; rfl, f2 vals r5 eq6⟩
      have other : ∀ v row, v ∈ rs ++ [V.ref D] → RowH G H5 v row → RowH G (upd H5 l (.lst (rs ++ [.ref D]))) v row := fun v row hv ⟨p, e, q, g⟩ => by
        refine ⟨p, e, ?_, g⟩
        have pl : p ≠ l := fun z => by
          rw [z, h5l] at q
          have q' := HO.lst.inj (Option.some.inj q)
          rcases List.mem_append.mp hv with hv | hv
          · rw [q', e] at hv
            obtain ⟨_, _, z2⟩ := List.mem_map.mp hv
            cases z2
          · rw [List.mem_singleton.mp hv] at e
            have e' := V.ref.inj e
            rw [← e'] at z
            exact lD z.symm
        rw [upd_ne pl]
        exact q
      exact (a5.append (.one ⟨D, rfl, h5D, gD⟩)).imp_mem fun v row hv _ hr => other v row hv hr
  · rintro σ H' ⟨v, vf, rows, rs, r', rfl, X1, R4, h4, nd4, a4, len, eq⟩
    rw [Nat.sub_self] at eq
    have eq2 : readTimes (readTimes readValue 3) z.toNat r = some (rows, r') := by
      rw [eq]
      show some (rows ++ [], r') = _
      rw [List.append_nil]
    have hlen := a4.length
    -- cursor = reader.take(0, len(rows))
    obtain ⟨dx3, fs3, m1, m2⟩ := R4.ins (m := "take") (by decide +kernel) (by decide +kernel)
    refine ⟨_, rfl, x, dx3, fs3, rfl, m1, m2, _, rfl, l, _, rfl, .inl (SqL.of h4), G, x, 0, _, r', rfl, X1.sub, R4, ?_, ?_⟩
    · intro e
      rw [hlen] at e
      exact kN (whole_none (table_none3 e1 eq2 e)) H' X1
    intro c r3 ec H5 x5 R5
    rw [hlen] at ec
    have X5 : Ext G H G H5 none_ := X1.then_ x5 fun c q => .inr (q ▸ nx)
    have keepR : ∀ {H6 H7 : Hp} {y : List Int}, Rdr A G H6 x y → (∀ b o, H6 b = some o → ¬ b = x → H7 b = some o) → H6 l = some (.lst rs) → All2 (RowH G H6) rs rows → H7 l = some (.lst rs) ∧ All2 (RowH G H7) rs rows := fun {H6 H7 y} R hk q1 q2 => by
      refine ⟨hk _ _ q1 fun z => xl z.symm, q2.imp fun v row ⟨p, e, q, g⟩ => ⟨p, e, hk _ _ q fun z => ?_, g⟩⟩
      obtain ⟨u1, u2, u3, u4, u5, _⟩ := R
      rw [z, u5] at q
      cases q
    obtain ⟨h5l, a5⟩ := keepR R4 x5.keep h4 a4
    -- clipboard = read_value(reader)
    refine ⟨_, rfl, G, x, r3, rfl, X5.sub, R5, fun e => kN (whole_none (table_none4 e1 eq2 ec (by rw [← value_take]; exact e))) H5 X5, fun cv r4 ev H6 x6 R6 => ?_⟩
    have X6 : Ext G H G H6 none_ := X5.then_ x6 fun c q => .inr (q ▸ nx)
    obtain ⟨h6l, a6⟩ := keepR R5 x6.keep h5l a5
    rw [value_take] at ev
    obtain ⟨tsome, tok⟩ := table_some e1 eq2 ec ev
    -- reader.finish()
    obtain ⟨dx4, fs4, n1, n2⟩ := R6.ins (m := "finish") (by decide +kernel) (by decide +kernel)
    refine ⟨_, rfl, x, dx4, fs4, rfl, n1, n2, G, x, r4, rfl, X6.sub, R6, fun n => kN (whole_rest tsome n) H6 X6, fun z0 => ?_⟩
    subst z0
    have hc := take_le ec
    refine ⟨_, rfl, _, rfl, _, rfl, fun y dy ny ndy ney => made_of (ws := [.ref l, .int c, .int cv]) rfl ?_⟩
    have s7 : ∀ b o, H6 b = some o → mkH H6 y dy A.c_Table [("rows", .ref l), ("cursor", .int c), ("clipboard", .int cv)] b = some o := fun b o q => mkH_old ny ndy q
    refine ⟨rfl, kS _ (whole_some tsome) tok _ y dy l rs (X6.trans (Ext.madeO X6.sub ny ndy)) ⟨?_, X6.sub.free ny, s7 _ _ h6l, gl, nd4, a6.imp fun _ _ ⟨p, e, q, g⟩ => ⟨p, e, s7 _ _ q, g⟩⟩⟩
    rw [show ((⟨rows, c.toNat, cv⟩ : Table).at_ : Int) = c by show ((c.toNat : Nat) : Int) = c; omega]
    exact mkH_x
end
end Lf

set_option Elab.async false
set_option linter.all false
set_option maxRecDepth 100000
set_option maxHeartbeats 4000000
/-! # Deeds on tables -/
namespace Lf
open PySem PySem.Spec PyProof.Rows L2
open VamacBase (Deed Prog Table)

theorem flat_rows_le {rows : List (List Int)} (h : ∀ r ∈ rows, r.length = 3) : rows.flatten.length = 3 * rows.length := by
  induction rows with
  | nil => rfl
  | cons r rows ih =>
    rw [List.flatten_cons, List.length_append, h r (List.mem_cons_self ..), ih fun y hy => h y (List.mem_cons_of_mem _ hy), List.length_cons]
    omega
def optN : Option Nat → V
  | none => .non
  | some i => .int (i : Int)
/-- what write, add, paste put into the field -/
def newV (t : Table) : Deed → Int
  | .paste _ => t.clip
  | .add f v => ((VamacBase.here t f).getD 0) + v
  | .write _ v => v
  | _ => 0
def isPut : Deed → Bool
  | .paste _ => true
  | .add _ _ => true
  | .write _ _ => true
  | _ => false
section
variable {P : Program} {w : World} {K : PySem.W.Frag} {mg : Str → Option Value} {base : Heap} {A : Ad}
/-- a value of a row -/
theorem TblAt.row {G H : Hp} {a dx L : Addr} {rs : List V} {t : Table} (h : TblAt A G H a dx L rs t) {i : Nat} {r : List Int} (hr : t.rows[i]? = some r) : ∃ p, rs[i]? = some (.ref p) ∧ H p = some (.lst (r.map V.int)) ∧ G p = none := by
  obtain ⟨v, h1, p, rfl, h2, h3⟩ := h.rows.get' hr
  exact ⟨p, h1, h2, h3⟩
def spTabNum (A : Ad) : Sp := fun vs H Q _ => ∃ (G : Hp) (a dx L : Addr) (rs : List V) (t : Table), vs = [.ref a] ∧ TblAt A G H a dx L rs t ∧ OkT t ∧ ∀ (H' : Hp) (r : Addr), Same H H' → H r = none → H' r = some (.lst ((VamacBase.flatTable t).map V.int)) → Q (.ref r) H'
theorem ok_table_as_numbers (T : Txt K mg A) : Okf P w K mg base CX0 1 A.f_table_as_numbers ["table"] (spTabNum A) := by
  obtain ⟨fd, F, b⟩ := T.d_table_as_numbers
  refine ⟨fd, F.ok sc_table_as_numbers (fun vs H Q E h => ?_) (fun cdv AA outer s H vs Q E hr h => ?_), b, F.kp⟩
  · obtain ⟨G, a, dx, L, rs, t, rfl, _⟩ := h
    rfl
  obtain ⟨G, a, dx, L, rs, t, rfl, hT, hok, kQ⟩ := h
  refine ⟨_, (pss_cons (ps_set (i := 1) sc_table_as_numbers.nd rfl (Or.inl rfl) (pe_lst (pa_cons (pe_callB call_len_seq (by rfl) T.z_len PySem.boot_len (pa_cons (pe_fld (pv 0) rfl) pa_nil)) pa_nil)))
      (pss_cons (ps_for PassesOwn.never rfl (pi_list (pe_fld (pv 0) rfl)) (pg_name (i := 2) sc_table_as_numbers.nd rfl (Or.inl rfl)) (pss_one (ps_expr (pe_bm PySem.F.plainAttrs_list PySem.F.slot_list_extend PySem.F.type_list_extend mt_extend (pv 1) (pa_cons (pv 2) pa_nil)))))
      (pss_cons (ps_expr (pe_bm PySem.F.plainAttrs_list PySem.F.slot_list_extend PySem.F.type_list_extend mt_extend (pv 1) (pa_cons (pe_lst (pa_cons (pe_fld (pv 0) rfl) (pa_cons (pe_fld (pv 0) rfl) pa_nil))) pa_nil)))
      (pss_one (ps_ret (pv 1)))))), ?_⟩
  have hlen := hT.rows.length
  have few := hok.few
  refine ⟨_, rfl, a, _, dx, _, _, rfl, hT.ins, T.cl_Table, T.na_Table_rows, tb_rows, L, _, rfl, .inl (SqL.of hT.lst), (by show 1 ≤ sizeLine; decide), fun n hn => ?_⟩
  have E1 : Ext H H H (upd H n (.lst [.int (rs.length : Int)])) none_ := Ext.open_ (Same.refl _) hn
  have tk : ∀ i, ((t.rows.take i).flatten).length ≤ 24 := fun i => by
    rw [flat_rows_le fun r hr => (hok.rows r (List.mem_of_mem_take hr)).1, List.length_take]
    omega
  have hT1 := hT.keep E1.sub
  refine ⟨_, rfl, a, _, dx, _, _, rfl, hT1.ins, T.cl_Table, T.na_Table_rows, tb_rows, L, rfl, ⟨_, SqL.of hT1.lst⟩, for_list (K := K) (a := L) (xs := rs) (fun i σ H' => ∃ (v : Option V), σ = [some (.ref a), some (.ref n), v] ∧ Ext H H H H' none_ ∧ H' n = some (.lst (((t.rows.length : Int) :: (t.rows.take i).flatten).map V.int)))
    ⟨none, rfl, E1, by rw [upd_same, List.take_zero, hlen]; rfl⟩ ?_ ?_ ?_⟩
  · rintro i σ H' _ ⟨v, rfl, X1, _⟩
    exact SqL.of (X1.sub _ _ hT.lst)
  · rintro i y σ H' hi ⟨v, rfl, X1, h1⟩
    obtain ⟨row, hrow, ⟨p, rfl, hp, gp⟩⟩ := hT.rows.get hi
    have h3 := (hok.rows row (List.mem_of_getElem? hrow)).1
    have tki := tk i
    refine ⟨_, rfl, .inl ⟨rfl, _, SqL.of h1⟩, _, rfl, n, p, _, _, rfl, rfl, h1, X1.sub _ _ hp, small (by rw [List.length_map, List.length_map, List.length_cons]; omega), ?_⟩
    refine ⟨some (.ref p), rfl, X1.put hn hn, ?_⟩
    rw [upd_same, List.take_add_one, hrow, List.flatten_append, ← List.map_append, List.cons_append]
    simp
  · rintro σ H' ⟨v, rfl, X1, h1⟩
    rw [hlen, List.take_length] at h1
    have tkn := tk t.rows.length
    rw [List.take_length] at tkn
    have hT2 := hT.keep X1.sub
    refine ⟨_, rfl, .inl ⟨rfl, _, SqL.of h1⟩, _, rfl, a, _, dx, _, _, rfl, hT2.ins, T.cl_Table, T.na_Table_cursor, tb_cursor, _, rfl, a, _, dx, _, _, rfl, hT2.ins, T.cl_Table, T.na_Table_clipboard, tb_clip, (by show 2 ≤ sizeLine; decide), fun u hu => ?_⟩
    have nu : n ≠ u := ne_of_none h1 hu
    refine ⟨n, u, _, _, rfl, rfl, by rw [upd_ne nu]; exact h1, upd_same, small (by rw [List.length_map, List.length_cons]; show _ + 2 ≤ 1000; omega), ?_⟩
    refine ⟨_, rfl, kQ _ n ((X1.trans (Ext.open_ X1.sub hu)).put hn hn).same hn ?_⟩
    rw [upd_same]
    show some (HO.lst (((t.rows.length : Int) :: t.rows.flatten).map V.int ++ [(t.at_ : Int), t.clip].map V.int)) = _
    rw [← List.map_append]
    rfl
def spFound (A : Ad) : Sp := fun vs H Q _ => ∃ (G : Hp) (a dx L : Addr) (rs : List V) (t : Table) (fi v : Int) (f : Nat), vs = [.ref a, .int fi, .int v] ∧ fi = (f : Nat) ∧ f < 3 ∧ TblAt A G H a dx L rs t ∧ OkT t ∧ Q (optN (foundB t f v)) H
theorem ok_found_below (T : Txt K mg A) : Okf P w K mg base CX0 1 A.f_found_below ["table", "field", "number"] (spFound A) := by
  obtain ⟨fd, F, b⟩ := T.d_found_below
  refine ⟨fd, F.ok sc_found_below (fun vs H Q E h => ?_) (fun cdv AA outer s H vs Q E hr h => ?_), b, F.kp⟩
  · obtain ⟨G, a, dx, L, rs, t, fi, v, f, rfl, _⟩ := h
    rfl
  obtain ⟨G, a, dx, L, rs, t, fi, v, f, rfl, hfi, hf, hT, hok, kQ⟩ := h
  refine ⟨_, (pss_cons (ps_for PassesOwn.never rfl (pi_range2 rfl T.z_range (pa_cons (pe_op op_add (pe_fld (pv 0) rfl) pe_int) (pa_cons (pe_callB call_len_seq (by rfl) T.z_len PySem.boot_len (pa_cons (pe_fld (pv 0) rfl) pa_nil)) pa_nil))) (pg_name (i := 3) sc_found_below.nd rfl (Or.inl rfl)) (pss_one (ps_if (pt_cmpR op_eq (pe_ix ix_list (pe_ix ix_list (pe_fld (pv 0) rfl) (pv 3) (fun _ _ => rfl)) (pv 1) (fun _ _ => rfl)) (pv 2) (nomark _)) (pss_one (ps_ret (pv 3))) pss_nil)))
      (pss_one (ps_ret pe_non))), ?_⟩
  have hlen := hT.rows.length
  have few := hok.few
  have hat := hok.at_
  refine ⟨_, rfl, a, _, dx, _, _, rfl, hT.ins, T.cl_Table, T.na_Table_cursor, tb_cursor, _, _, rfl, rfl, _, rfl, a, _, dx, _, _, rfl, hT.ins, T.cl_Table, T.na_Table_rows, tb_rows, L, _, rfl, .inl (SqL.of hT.lst), _, _, rfl, ⟨by omega, by omega, by omega, by omega⟩, for_range (lo := (t.at_ : Int) + 1) (n := ((rs.length : Int) - ((t.at_ : Int) + 1)).toNat) (fun i σ H' => H' = H ∧ (∃ v3 : Option V, σ = [some (.ref a), some (.int fi), some (.int v), v3]) ∧ ∀ j, t.at_ < j → j < t.at_ + 1 + i → ¬ hitB t f v j)
    ⟨rfl, ⟨none, rfl⟩, fun j j1 j2 => absurd j2 (by omega)⟩ ?_ ?_⟩
  · rintro i σ H' hi ⟨rfl, ⟨v3, rfl⟩, hall⟩
    have hi' : t.at_ + 1 + i < t.rows.length := by omega
    obtain ⟨p, hp1, hp2, _⟩ := hT.row (List.getElem?_eq_getElem hi')
    have h3 := (hok.rows _ (List.getElem_mem hi')).1
    have epl : ((t.at_ : Int) + 1 + (i : Int)).toNat = t.at_ + 1 + i := by omega
    refine ⟨_, rfl, a, _, dx, _, _, rfl, hT.ins, T.cl_Table, T.na_Table_rows, tb_rows, _, rfl, L, rs, _, .ref p, rfl, rfl, SqL.of hT.lst, atI_ok (by omega) (by rw [epl]; exact hp1), _, rfl, p, _, _, .int ((t.rows[t.at_ + 1 + i])[f]'(by omega)), rfl, rfl, SqL.of hp2, atI_ok (by omega) (by rw [hfi, Int.toNat_natCast, List.getElem?_map, List.getElem?_eq_getElem (by omega)]; rfl), _, rfl, rfl, _, rfl, ?_⟩
    by_cases c : (t.rows[t.at_ + 1 + i])[f]'(by omega) = v
    · refine if_true_of (decide_eq_true (by rw [c])) ?_
      refine ⟨_, rfl, ?_⟩
      have e := found_some (t := t) (f := f) (v := v) (i := t.at_ + 1 + i) (by omega) hi' ⟨_, List.getElem?_eq_getElem hi', by rw [List.getElem?_eq_getElem (by omega), c]⟩ (fun j j1 j2 => hall j j1 j2)
      rw [e] at kQ
      have e2 : ((t.at_ : Int) + 1 + (i : Int)) = ((t.at_ + 1 + i : Nat) : Int) := by omega
      rw [e2]
      exact kQ
    · refine if_false_of (decide_eq_false fun z => c (V.int.inj z)) ?_
      refine ⟨rfl, ⟨_, rfl⟩, fun j j1 j2 => ?_⟩
      by_cases z : j = t.at_ + 1 + i
      · rintro ⟨r, r1, r2⟩
        rw [z, List.getElem?_eq_getElem hi'] at r1
        cases r1
        rw [List.getElem?_eq_getElem (by omega)] at r2
        exact c (Option.some.inj r2)
      · exact hall j j1 (by omega)
  · rintro σ H' ⟨rfl, ⟨v3, rfl⟩, hall⟩
    have e := found_none (t := t) (f := f) (v := v) (fun j j1 j2 => hall j j1 (by omega))
    rw [e] at kQ
    exact kQ
def spNewV (A : Ad) : Sp := fun vs H Q _ => ∃ (G : Hp) (a dx L : Addr) (rs : List V) (t : Table) (v : V) (d : Deed), vs = [.ref a, v] ∧ Same G H ∧ DeedAt G v d ∧ VamacBase.okDeed d = true ∧ isPut d = true ∧ TblAt A G H a dx L rs t ∧ OkT t ∧ t.at_ < t.rows.length ∧ Q (.int (newV t d)) H
theorem ok_new_value (T : Txt K mg A) : Okf P w K mg base CX0 1 A.f_new_value ["table", "deed"] (spNewV A) := by
  obtain ⟨fd, F, b⟩ := T.d_new_value
  refine ⟨fd, F.ok sc_new_value (fun vs H Q E h => ?_) (fun cdv AA outer s H vs Q E hr h => ?_), b, F.kp⟩
  · obtain ⟨G, a, dx, L, rs, t, v, d, rfl, _⟩ := h
    rfl
  obtain ⟨G, a, dx, L, rs, t, v, d, rfl, hS, ⟨q, rfl, hq⟩, hd, hput, hT, hok, hat, kQ⟩ := h
  refine ⟨_, (pss_cons (ps_if (pt_cmpR op_eq (pe_ix ix_tup (pv 1) pe_int (fun _ _ => rfl)) (pe_glob (v := V.int 6) rfl T.i_PASTE.choose_spec ⟨_, rfl⟩) (nomark _)) (pss_one (ps_ret (pe_fld (pv 0) rfl))) pss_nil)
      (pss_cons (ps_if (pt_cmpR op_eq (pe_ix ix_tup (pv 1) pe_int (fun _ _ => rfl)) (pe_glob (v := V.int 4) rfl T.i_ADD_deeds.choose_spec ⟨_, rfl⟩) (nomark _)) (pss_one (ps_ret (pe_op op_add (pe_ix ix_list (pe_ix ix_list (pe_fld (pv 0) rfl) (pe_fld (pv 0) rfl) (fun _ _ => rfl)) (pe_ix ix_tup (pv 1) pe_int (fun _ _ => rfl)) (fun _ _ => rfl)) (pe_ix ix_tup (pv 1) pe_int (fun _ _ => rfl))))) pss_nil)
      (pss_one (ps_ret (pe_ix ix_tup (pv 1) pe_int (fun _ _ => rfl)))))), ?_⟩
  have hq' := hS _ _ hq
  cases d with
  | paste f =>
    refine ⟨_, rfl, q, _, _, .int 6, rfl, rfl, SqT.of hq', rfl, rfl, _, rfl, if_true_of rfl ?_⟩
    exact ⟨_, rfl, a, _, dx, _, _, rfl, hT.ins, T.cl_Table, T.na_Table_clipboard, tb_clip, kQ⟩
  | add f x =>
    have hf : f < 3 := by
      have hd' : (VamacBase.okField f && VamacBase.okValue x) = true := hd
      rw [Bool.and_eq_true] at hd'
      exact field_lt hd'.1
    obtain ⟨r, y, h1, h2, h3, h4, _⟩ := here_some hok hat hf
    obtain ⟨p, hp1, hp2, _⟩ := hT.row h1
    refine ⟨_, rfl, q, _, _, .int 4, rfl, rfl, SqT.of hq', rfl, rfl, _, rfl, if_false_of rfl ?_⟩
    refine ⟨_, rfl, q, _, _, .int 4, rfl, rfl, SqT.of hq', rfl, rfl, _, rfl, if_true_of rfl ?_⟩
    refine ⟨_, rfl, a, _, dx, _, _, rfl, hT.ins, T.cl_Table, T.na_Table_rows, tb_rows, _, rfl, a, _, dx, _, _, rfl, hT.ins, T.cl_Table, T.na_Table_cursor, tb_cursor, L, rs, _, .ref p, rfl, rfl, SqL.of hT.lst, atI_nat hp1, _, rfl, q, _, _, .int (f : Int), rfl, rfl, SqT.of hq', rfl, p, _, _, .int y, rfl, rfl, SqL.of hp2, atI_nat (by rw [List.getElem?_map, h2]; rfl), _, rfl, q, _, _, .int x, rfl, rfl, SqT.of hq', rfl, _, _, rfl, rfl, ?_⟩
    have e : newV t (.add f x) = y + x := by
      show (VamacBase.here t f).getD 0 + x = y + x
      rw [h3]
      rfl
    rw [e] at kQ
    exact kQ
  | write f x =>
    refine ⟨_, rfl, q, _, _, .int 3, rfl, rfl, SqT.of hq', rfl, rfl, _, rfl, if_false_of rfl ?_⟩
    refine ⟨_, rfl, q, _, _, .int 3, rfl, rfl, SqT.of hq', rfl, rfl, _, rfl, if_false_of rfl ?_⟩
    exact ⟨_, rfl, q, _, _, .int x, rfl, rfl, SqT.of hq', rfl, kQ⟩
  | _ => cases hput
def spFault (A : Ad) : Sp := fun vs H Q _ => ∃ (G : Hp) (a dx L : Addr) (rs : List V) (t : Table) (v : V) (d : Deed), vs = [.ref a, v] ∧ Same G H ∧ DeedAt G v d ∧ VamacBase.okDeed d = true ∧ TblAt A G H a dx L rs t ∧ OkT t ∧ ∀ H', Same H H' → Q (.int (faultN t d)) H'
theorem written_in {t : Table} {f : Nat} {v : Int} (h : OkT t) (hl : t.at_ < t.rows.length) (hv : -999 ≤ v ∧ v ≤ 999) : VamacBase.written t f v = .ok (VamacBase.setHere t f v) := by
  unfold VamacBase.written
  rw [end_iff h, decide_eq_false (by omega), if_neg Bool.false_ne_true, if_pos (value_of hv)]
theorem written_great {t : Table} {f : Nat} {v : Int} (h : OkT t) (hl : t.at_ < t.rows.length) (hv : ¬ (-999 ≤ v ∧ v ≤ 999)) : VamacBase.written t f v = .error .great := by
  unfold VamacBase.written
  rw [end_iff h, decide_eq_false (by omega), if_neg Bool.false_ne_true, if_neg fun z => hv (value_le z)]
theorem done_down {t : Table} (h : OkT t) (hl : t.at_ < t.rows.length) : VamacBase.doneBy t .down = .ok { t with at_ := t.at_ + 1 } := by
  unfold VamacBase.doneBy
  rw [end_iff h, decide_eq_false (by omega)]
  rfl
theorem done_delete {t : Table} (h : OkT t) (hl : t.at_ < t.rows.length) : VamacBase.doneBy t .delete = .ok { t with rows := t.rows.eraseIdx t.at_ } := by
  unfold VamacBase.doneBy
  rw [end_iff h, decide_eq_false (by omega)]
  rfl
theorem done_double {t : Table} (h : OkT t) (hl : t.at_ < t.rows.length) (h8 : t.rows.length < 8) : VamacBase.doneBy t .double = .ok { t with rows := t.rows.take (t.at_ + 1) ++ t.rows.drop t.at_ } := by
  unfold VamacBase.doneBy
  rw [end_iff h, decide_eq_false (by omega)]
  simp only [Bool.false_eq_true, if_false]
  rw [if_neg (by show ¬ 8 ≤ t.rows.length; omega)]
theorem done_full {t : Table} (h : OkT t) (hl : t.at_ < t.rows.length) (h8 : t.rows.length = 8) : VamacBase.doneBy t .double = .error .full := by
  unfold VamacBase.doneBy
  rw [end_iff h, decide_eq_false (by omega)]
  simp only [Bool.false_eq_true, if_false]
  rw [if_pos (by show 8 ≤ t.rows.length; omega)]
theorem done_copy {t : Table} {f : Nat} {v : Int} (h : VamacBase.here t f = some v) : VamacBase.doneBy t (.copy f) = .ok { t with clip := v } := by
  unfold VamacBase.doneBy
  simp only [h]
theorem done_find {t : Table} {f : Nat} {v : Int} : VamacBase.doneBy t (.find f v) = match foundB t f v with | none => .error .missing | some i => .ok { t with at_ := i } := rfl
theorem done_up {t : Table} : VamacBase.doneBy t .up = if t.at_ = 0 then .error .first else .ok { t with at_ := t.at_ - 1 } := rfl
theorem ok_fault_of (T : Txt K mg A) : Okf P w K mg base CX0 2 A.f_fault_of ["table", "deed"] (spFault A) := by
  have G_found_below := ok_found_below (P := P) (w := w) (base := base) T
  have G_new_value := ok_new_value (P := P) (w := w) (base := base) T
  obtain ⟨fd, F, b⟩ := T.d_fault_of
  refine ⟨fd, F.ok sc_fault_of (fun vs H Q E h => ?_) (fun cdv AA outer s H vs Q E hr h => ?_), b, F.kp⟩
  · obtain ⟨G, a, dx, L, rs, t, v, d, rfl, _⟩ := h
    rfl
  obtain ⟨G, a, dx, L, rs, t, v, d, rfl, hS, ⟨q, rfl, hq⟩, hd, hT, hok, kQ⟩ := h
  refine ⟨_, (pss_cons (ps_set (i := 2) sc_fault_of.nd rfl (Or.inl rfl) (pe_ix ix_tup (pv 1) pe_int (fun _ _ => rfl)))
      (pss_cons (ps_if (pt_cmpR op_eq (pv 2) (pe_glob (v := V.int 2) rfl T.i_TOP.choose_spec ⟨_, rfl⟩) (nomark _)) (pss_one (ps_ret (pe_glob (v := V.int 0) rfl T.i_WELL.choose_spec ⟨_, rfl⟩))) pss_nil)
      (pss_cons (ps_if (pt_cmpR op_eq (pv 2) (pe_glob (v := V.int 1) rfl T.i_UP.choose_spec ⟨_, rfl⟩) (nomark _)) (pss_one (ps_ret (pe_ifExp (pt_cmpR op_eq (pe_fld (pv 0) rfl) pe_int (nomark _)) (pe_glob (v := V.int 2) rfl T.i_AT_ROW_0.choose_spec ⟨_, rfl⟩) (pe_glob (v := V.int 0) rfl T.i_WELL.choose_spec ⟨_, rfl⟩)))) pss_nil)
      (pss_cons (ps_if (pt_cmpR op_eq (pv 2) (pe_glob (v := V.int 9) rfl T.i_FIND.choose_spec ⟨_, rfl⟩) (nomark _)) (pss_one (ps_ret (pe_ifExp (pt_cmpR op_isN (call_f G_found_below (hr.mono (by omega)) rfl T.g_found_below pass0 (pa_cons (pv 0) (pa_cons (pe_ix ix_tup (pv 1) pe_int (fun _ _ => rfl)) (pa_cons (pe_ix ix_tup (pv 1) pe_int (fun _ _ => rfl)) pa_nil)))) pe_non (nomark _)) (pe_glob (v := V.int 5) rfl T.i_NONE_FOUND.choose_spec ⟨_, rfl⟩) (pe_glob (v := V.int 0) rfl T.i_WELL.choose_spec ⟨_, rfl⟩)))) pss_nil)
      (pss_cons (ps_if (pt_cmpR op_eq (pe_fld (pv 0) rfl) (pe_callB call_len_seq (by rfl) T.z_len PySem.boot_len (pa_cons (pe_fld (pv 0) rfl) pa_nil)) (nomark _)) (pss_one (ps_ret (pe_glob (v := V.int 1) rfl T.i_NO_ROW_HERE.choose_spec ⟨_, rfl⟩))) pss_nil)
      (pss_cons (ps_if (PW.pt (pw_and (pt_cmpR op_in_seq (pv 2) (pe_tup (pa_cons (pe_glob (v := V.int 3) rfl T.i_WRITE.choose_spec ⟨_, rfl⟩) (pa_cons (pe_glob (v := V.int 4) rfl T.i_ADD_deeds.choose_spec ⟨_, rfl⟩) pa_nil))) (by rfl)) (pw_and1 (pt_cmpR op_gt (pe_callB call_abs (by rfl) T.z_abs (by decide +kernel) (pa_cons (call_f G_new_value (hr.mono (by omega)) rfl T.g_new_value pass0 (pa_cons (pv 0) (pa_cons (pv 1) pa_nil))) pa_nil)) (pe_glob (v := V.int 999) rfl T.i_MOST_NUMBER.choose_spec ⟨_, rfl⟩) (nomark _))))) (pss_one (ps_ret (pe_glob (v := V.int 3) rfl T.i_BEYOND_999.choose_spec ⟨_, rfl⟩))) pss_nil)
      (pss_cons (ps_if (PW.pt (pw_and (pt_cmpR op_eq (pv 2) (pe_glob (v := V.int 8) rfl T.i_DOUBLE.choose_spec ⟨_, rfl⟩) (nomark _)) (pw_and1 (pt_cmpR op_eq (pe_callB call_len_seq (by rfl) T.z_len PySem.boot_len (pa_cons (pe_fld (pv 0) rfl) pa_nil)) (pe_glob (v := V.int 8) rfl T.i_MOST_ROWS.choose_spec ⟨_, rfl⟩) (nomark _))))) (pss_one (ps_ret (pe_glob (v := V.int 4) rfl T.i_ROWS_FULL.choose_spec ⟨_, rfl⟩))) pss_nil)
      (pss_one (ps_ret (pe_glob (v := V.int 0) rfl T.i_WELL.choose_spec ⟨_, rfl⟩)))))))))), ?_⟩
  have hq' := hS _ _ hq
  have hlen := hT.rows.length
  have few := hok.few
  have hat := hok.at_
  cases d with
  | top =>
    refine ⟨_, rfl, q, _, _, .int 2, rfl, rfl, SqT.of hq', rfl, ?_⟩
    refine ⟨_, rfl, rfl, _, rfl, if_true_of rfl ?_⟩
    exact kQ H (Same.refl _)
  | up =>
    refine ⟨_, rfl, q, _, _, .int 1, rfl, rfl, SqT.of hq', rfl, ?_⟩
    refine ⟨_, rfl, rfl, _, rfl, if_false_of rfl ?_⟩
    refine ⟨_, rfl, rfl, _, rfl, if_true_of rfl ?_⟩
    refine ⟨_, rfl, a, _, dx, _, _, rfl, hT.ins, T.cl_Table, T.na_Table_cursor, tb_cursor, rfl, _, rfl, ?_⟩
    by_cases c : t.at_ = 0
    · refine if_true_of (decide_eq_true (by rw [c]; rfl)) ?_
      have e : faultN t .up = 2 := by
        unfold faultN
        rw [done_up, if_pos c]
        rfl
      have := kQ H (Same.refl _)
      rw [e] at this
      exact this
    · refine if_false_of (decide_eq_false fun z => c (by have := V.int.inj z; omega)) ?_
      have e : faultN t .up = 0 := by
        unfold faultN
        rw [done_up, if_neg c]
      have := kQ H (Same.refl _)
      rw [e] at this
      exact this
  | find f x =>
    have hf : f < 3 := by
      have hd' : (VamacBase.okField f && VamacBase.okValue x) = true := hd
      rw [Bool.and_eq_true] at hd'
      exact field_lt hd'.1
    refine ⟨_, rfl, q, _, _, .int 9, rfl, rfl, SqT.of hq', rfl, ?_⟩
    refine ⟨_, rfl, rfl, _, rfl, if_false_of rfl ?_⟩
    refine ⟨_, rfl, rfl, _, rfl, if_false_of rfl ?_⟩
    refine ⟨_, rfl, rfl, _, rfl, if_true_of rfl ?_⟩
    refine ⟨_, rfl, _, rfl, q, _, _, .int (f : Int), rfl, rfl, SqT.of hq', rfl, _, rfl, q, _, _, .int x, rfl, rfl, SqT.of hq', rfl, G, a, dx, L, rs, t, _, x, f, rfl, rfl, hf, hT, hok, rfl, _, rfl, ?_⟩
    have := kQ H (Same.refl _)
    unfold faultN at this
    rw [done_find] at this
    cases c : foundB t f x with
    | none =>
      rw [c] at this
      exact if_true_of rfl this
    | some i =>
      rw [c] at this
      exact if_false_of rfl this
  | down =>
    refine ⟨_, rfl, q, _, _, .int 0, rfl, rfl, SqT.of hq', rfl, ?_⟩
    refine ⟨_, rfl, rfl, _, rfl, if_false_of rfl ?_⟩
    refine ⟨_, rfl, rfl, _, rfl, if_false_of rfl ?_⟩
    refine ⟨_, rfl, rfl, _, rfl, if_false_of rfl ?_⟩
    refine ⟨_, rfl, a, _, dx, _, _, rfl, hT.ins, T.cl_Table, T.na_Table_cursor, tb_cursor, _, rfl, a, _, dx, _, _, rfl, hT.ins, T.cl_Table, T.na_Table_rows, tb_rows, L, _, rfl, .inl (SqL.of hT.lst), rfl, _, rfl, ?_⟩
    by_cases c : t.at_ = t.rows.length
    · refine if_true_of (decide_eq_true (by rw [hlen, c])) ?_
      have e : faultN t (.down) = 1 := by
        show (match VamacBase.doneBy t (.down) with | .ok _ => (0 : Int) | .error f => VamacBase.faultNumber f) = 1
        unfold VamacBase.doneBy
        rw [end_iff hok, decide_eq_true c]
        rfl
      rw [← e]
      exact kQ H (Same.refl _)
    refine if_false_of (decide_eq_false fun z => c (by have := V.int.inj z; omega)) ?_
    have hlt : t.at_ < t.rows.length := by omega
    refine ⟨_, rfl, (by show 2 ≤ sizeLine; decide), fun u hu => ⟨_, _, rfl, .inr (SqT.of upd_same), rfl, rfl, _, rfl, ?_⟩⟩
    refine if_false_of rfl (iteF ?_)
    refine ⟨_, rfl, rfl, _, rfl, if_false_of rfl (iteF ?_)⟩
    have e : faultN t (.down) = 0 := faultN_zero.mpr ⟨_, done_down hok hlt⟩
    rw [← e]
    exact kQ _ (same_new hu)
  | delete =>
    refine ⟨_, rfl, q, _, _, .int 7, rfl, rfl, SqT.of hq', rfl, ?_⟩
    refine ⟨_, rfl, rfl, _, rfl, if_false_of rfl ?_⟩
    refine ⟨_, rfl, rfl, _, rfl, if_false_of rfl ?_⟩
    refine ⟨_, rfl, rfl, _, rfl, if_false_of rfl ?_⟩
    refine ⟨_, rfl, a, _, dx, _, _, rfl, hT.ins, T.cl_Table, T.na_Table_cursor, tb_cursor, _, rfl, a, _, dx, _, _, rfl, hT.ins, T.cl_Table, T.na_Table_rows, tb_rows, L, _, rfl, .inl (SqL.of hT.lst), rfl, _, rfl, ?_⟩
    by_cases c : t.at_ = t.rows.length
    · refine if_true_of (decide_eq_true (by rw [hlen, c])) ?_
      have e : faultN t (.delete) = 1 := by
        show (match VamacBase.doneBy t (.delete) with | .ok _ => (0 : Int) | .error f => VamacBase.faultNumber f) = 1
        unfold VamacBase.doneBy
        rw [end_iff hok, decide_eq_true c]
        rfl
      rw [← e]
      exact kQ H (Same.refl _)
    refine if_false_of (decide_eq_false fun z => c (by have := V.int.inj z; omega)) ?_
    have hlt : t.at_ < t.rows.length := by omega
    refine ⟨_, rfl, (by show 2 ≤ sizeLine; decide), fun u hu => ⟨_, _, rfl, .inr (SqT.of upd_same), rfl, rfl, _, rfl, ?_⟩⟩
    refine if_false_of rfl (iteF ?_)
    refine ⟨_, rfl, rfl, _, rfl, if_false_of rfl (iteF ?_)⟩
    have e : faultN t (.delete) = 0 := faultN_zero.mpr ⟨_, done_delete hok hlt⟩
    rw [← e]
    exact kQ _ (same_new hu)
  | copy f =>
    refine ⟨_, rfl, q, _, _, .int 5, rfl, rfl, SqT.of hq', rfl, ?_⟩
    refine ⟨_, rfl, rfl, _, rfl, if_false_of rfl ?_⟩
    refine ⟨_, rfl, rfl, _, rfl, if_false_of rfl ?_⟩
    refine ⟨_, rfl, rfl, _, rfl, if_false_of rfl ?_⟩
    refine ⟨_, rfl, a, _, dx, _, _, rfl, hT.ins, T.cl_Table, T.na_Table_cursor, tb_cursor, _, rfl, a, _, dx, _, _, rfl, hT.ins, T.cl_Table, T.na_Table_rows, tb_rows, L, _, rfl, .inl (SqL.of hT.lst), rfl, _, rfl, ?_⟩
    by_cases c : t.at_ = t.rows.length
    · refine if_true_of (decide_eq_true (by rw [hlen, c])) ?_
      have e : faultN t (.copy f) = 1 := by
        show (match VamacBase.doneBy t (.copy f) with | .ok _ => (0 : Int) | .error f => VamacBase.faultNumber f) = 1
        have hn : VamacBase.here t f = none := by
          unfold VamacBase.here
          rw [c, List.getElem?_eq_none (Nat.le_refl _)]
          rfl
        unfold VamacBase.doneBy
        simp only [hn]
        rfl
      rw [← e]
      exact kQ H (Same.refl _)
    refine if_false_of (decide_eq_false fun z => c (by have := V.int.inj z; omega)) ?_
    have hlt : t.at_ < t.rows.length := by omega
    obtain ⟨r, y, h1, h2, h3, h4, _⟩ := here_some hok hlt (field_lt hd)
    refine ⟨_, rfl, (by show 2 ≤ sizeLine; decide), fun u hu => ⟨_, _, rfl, .inr (SqT.of upd_same), rfl, rfl, _, rfl, ?_⟩⟩
    refine if_false_of rfl (iteF ?_)
    refine ⟨_, rfl, rfl, _, rfl, if_false_of rfl (iteF ?_)⟩
    have e : faultN t (.copy f) = 0 := faultN_zero.mpr ⟨_, done_copy h3⟩
    rw [← e]
    exact kQ _ (same_new hu)
  | paste f =>
    refine ⟨_, rfl, q, _, _, .int 6, rfl, rfl, SqT.of hq', rfl, ?_⟩
    refine ⟨_, rfl, rfl, _, rfl, if_false_of rfl ?_⟩
    refine ⟨_, rfl, rfl, _, rfl, if_false_of rfl ?_⟩
    refine ⟨_, rfl, rfl, _, rfl, if_false_of rfl ?_⟩
    refine ⟨_, rfl, a, _, dx, _, _, rfl, hT.ins, T.cl_Table, T.na_Table_cursor, tb_cursor, _, rfl, a, _, dx, _, _, rfl, hT.ins, T.cl_Table, T.na_Table_rows, tb_rows, L, _, rfl, .inl (SqL.of hT.lst), rfl, _, rfl, ?_⟩
    by_cases c : t.at_ = t.rows.length
    · refine if_true_of (decide_eq_true (by rw [hlen, c])) ?_
      have e : faultN t (.paste f) = 1 := by
        show (match VamacBase.written t f (t.clip) with | .ok _ => (0 : Int) | .error f => VamacBase.faultNumber f) = 1
        unfold VamacBase.written
        rw [end_iff hok, decide_eq_true c]
        rfl
      rw [← e]
      exact kQ H (Same.refl _)
    refine if_false_of (decide_eq_false fun z => c (by have := V.int.inj z; omega)) ?_
    have hlt : t.at_ < t.rows.length := by omega
    refine ⟨_, rfl, (by show 2 ≤ sizeLine; decide), fun u hu => ⟨_, _, rfl, .inr (SqT.of upd_same), rfl, rfl, _, rfl, ?_⟩⟩
    refine if_false_of rfl (iteF ?_)
    refine ⟨_, rfl, rfl, _, rfl, if_false_of rfl (iteF ?_)⟩
    have e : faultN t (.paste f) = 0 := faultN_zero.mpr ⟨_, written_in hok hlt hok.clip⟩
    rw [← e]
    exact kQ _ (same_new hu)
  | double =>
    refine ⟨_, rfl, q, _, _, .int 8, rfl, rfl, SqT.of hq', rfl, ?_⟩
    refine ⟨_, rfl, rfl, _, rfl, if_false_of rfl ?_⟩
    refine ⟨_, rfl, rfl, _, rfl, if_false_of rfl ?_⟩
    refine ⟨_, rfl, rfl, _, rfl, if_false_of rfl ?_⟩
    refine ⟨_, rfl, a, _, dx, _, _, rfl, hT.ins, T.cl_Table, T.na_Table_cursor, tb_cursor, _, rfl, a, _, dx, _, _, rfl, hT.ins, T.cl_Table, T.na_Table_rows, tb_rows, L, _, rfl, .inl (SqL.of hT.lst), rfl, _, rfl, ?_⟩
    by_cases c : t.at_ = t.rows.length
    · refine if_true_of (decide_eq_true (by rw [hlen, c])) ?_
      have e : faultN t (.double) = 1 := by
        show (match VamacBase.doneBy t (.double) with | .ok _ => (0 : Int) | .error f => VamacBase.faultNumber f) = 1
        unfold VamacBase.doneBy
        rw [end_iff hok, decide_eq_true c]
        rfl
      rw [← e]
      exact kQ H (Same.refl _)
    refine if_false_of (decide_eq_false fun z => c (by have := V.int.inj z; omega)) ?_
    have hlt : t.at_ < t.rows.length := by omega
    refine ⟨_, rfl, (by show 2 ≤ sizeLine; decide), fun u hu => ⟨_, _, rfl, .inr (SqT.of upd_same), rfl, rfl, _, rfl, ?_⟩⟩
    refine if_false_of rfl (iteF ?_)
    have hT1 := hT.keep (same_new (o := .tup [.int 3, .int 4]) hu)
    refine ⟨_, rfl, rfl, _, rfl, if_true_of rfl ?_⟩
    refine ⟨_, rfl, a, _, dx, _, _, rfl, hT1.ins, T.cl_Table, T.na_Table_rows, tb_rows, L, _, rfl, .inl (SqL.of hT1.lst), rfl, _, rfl, ?_⟩
    by_cases c8 : t.rows.length = 8
    · refine if_true_of (decide_eq_true (by rw [hlen, c8]; rfl)) ?_
      have e : faultN t .double = 4 := by
        unfold faultN
        rw [done_full hok hlt c8]
        rfl
      rw [← e]
      exact kQ _ (same_new hu)
    · refine if_false_of (decide_eq_false fun z => c8 (by have := V.int.inj z; omega)) ?_
      have e : faultN t .double = 0 := faultN_zero.mpr ⟨_, done_double hok hlt (by omega)⟩
      rw [← e]
      exact kQ _ (same_new hu)
  | write f x =>
    refine ⟨_, rfl, q, _, _, .int 3, rfl, rfl, SqT.of hq', rfl, ?_⟩
    refine ⟨_, rfl, rfl, _, rfl, if_false_of rfl ?_⟩
    refine ⟨_, rfl, rfl, _, rfl, if_false_of rfl ?_⟩
    refine ⟨_, rfl, rfl, _, rfl, if_false_of rfl ?_⟩
    refine ⟨_, rfl, a, _, dx, _, _, rfl, hT.ins, T.cl_Table, T.na_Table_cursor, tb_cursor, _, rfl, a, _, dx, _, _, rfl, hT.ins, T.cl_Table, T.na_Table_rows, tb_rows, L, _, rfl, .inl (SqL.of hT.lst), rfl, _, rfl, ?_⟩
    by_cases c : t.at_ = t.rows.length
    · refine if_true_of (decide_eq_true (by rw [hlen, c])) ?_
      have e : faultN t (.write f x) = 1 := by
        show (match VamacBase.written t f (x) with | .ok _ => (0 : Int) | .error f => VamacBase.faultNumber f) = 1
        unfold VamacBase.written
        rw [end_iff hok, decide_eq_true c]
        rfl
      rw [← e]
      exact kQ H (Same.refl _)
    refine if_false_of (decide_eq_false fun z => c (by have := V.int.inj z; omega)) ?_
    have hlt : t.at_ < t.rows.length := by omega
    refine ⟨_, rfl, (by show 2 ≤ sizeLine; decide), fun u hu => ⟨_, _, rfl, .inr (SqT.of upd_same), rfl, rfl, _, rfl, ?_⟩⟩
    refine if_true_of rfl ?_
    have hT1 := hT.keep (same_new (o := .tup [.int 3, .int 4]) hu)
    refine ⟨_, rfl, _, rfl, G, a, dx, L, rs, t, _, .write f x, rfl, hS.trans (same_new hu), ⟨q, rfl, hq⟩, hd, rfl, hT1, hok, hlt, _, rfl, _, _, rfl, rfl, _, rfl, ?_⟩
    have en : newV t (.write f x) = x := rfl
    rw [en]
    generalize hval : x = y
    have kQ' := kQ _ (same_new (o := .tup [.int 3, .int 4]) hu)
    have ed : VamacBase.doneBy t (.write f x) = VamacBase.written t f y := by
      rw [← hval]
      rfl
    unfold faultN at kQ'
    rw [ed] at kQ'
    refine if_dec (fun c2 => ?_) (fun c2 => ?_)
    · rw [written_great hok hlt (by split at c2 <;> omega)] at kQ'
      exact kQ'
    · rw [written_in hok hlt (by split at c2 <;> omega)] at kQ'
      refine ⟨_, rfl, rfl, _, rfl, if_false_of rfl (iteF ?_)⟩
      exact kQ'
  | add f x =>
    refine ⟨_, rfl, q, _, _, .int 4, rfl, rfl, SqT.of hq', rfl, ?_⟩
    refine ⟨_, rfl, rfl, _, rfl, if_false_of rfl ?_⟩
    refine ⟨_, rfl, rfl, _, rfl, if_false_of rfl ?_⟩
    refine ⟨_, rfl, rfl, _, rfl, if_false_of rfl ?_⟩
    refine ⟨_, rfl, a, _, dx, _, _, rfl, hT.ins, T.cl_Table, T.na_Table_cursor, tb_cursor, _, rfl, a, _, dx, _, _, rfl, hT.ins, T.cl_Table, T.na_Table_rows, tb_rows, L, _, rfl, .inl (SqL.of hT.lst), rfl, _, rfl, ?_⟩
    by_cases c : t.at_ = t.rows.length
    · refine if_true_of (decide_eq_true (by rw [hlen, c])) ?_
      have e : faultN t (.add f x) = 1 := by
        show (match VamacBase.written t f (((VamacBase.here t f).getD 0) + x) with | .ok _ => (0 : Int) | .error f => VamacBase.faultNumber f) = 1
        unfold VamacBase.written
        rw [end_iff hok, decide_eq_true c]
        rfl
      rw [← e]
      exact kQ H (Same.refl _)
    refine if_false_of (decide_eq_false fun z => c (by have := V.int.inj z; omega)) ?_
    have hlt : t.at_ < t.rows.length := by omega
    refine ⟨_, rfl, (by show 2 ≤ sizeLine; decide), fun u hu => ⟨_, _, rfl, .inr (SqT.of upd_same), rfl, rfl, _, rfl, ?_⟩⟩
    refine if_true_of rfl ?_
    have hT1 := hT.keep (same_new (o := .tup [.int 3, .int 4]) hu)
    refine ⟨_, rfl, _, rfl, G, a, dx, L, rs, t, _, .add f x, rfl, hS.trans (same_new hu), ⟨q, rfl, hq⟩, hd, rfl, hT1, hok, hlt, _, rfl, _, _, rfl, rfl, _, rfl, ?_⟩
    have en : newV t (.add f x) = ((VamacBase.here t f).getD 0) + x := rfl
    rw [en]
    generalize hval : ((VamacBase.here t f).getD 0) + x = y
    have kQ' := kQ _ (same_new (o := .tup [.int 3, .int 4]) hu)
    have ed : VamacBase.doneBy t (.add f x) = VamacBase.written t f y := by
      rw [← hval]
      rfl
    unfold faultN at kQ'
    rw [ed] at kQ'
    refine if_dec (fun c2 => ?_) (fun c2 => ?_)
    · rw [written_great hok hlt (by split at c2 <;> omega)] at kQ'
      exact kQ'
    · rw [written_in hok hlt (by split at c2 <;> omega)] at kQ'
      refine ⟨_, rfl, rfl, _, rfl, if_false_of rfl (iteF ?_)⟩
      exact kQ'
end
end Lf

set_option Elab.async false
set_option linter.all false
set_option maxRecDepth 100000
set_option maxHeartbeats 4000000
/-! # A deed done, a run, play -/
namespace Lf
open PySem PySem.Spec PyProof.Rows L2
open VamacBase (Deed Prog Table whole readTable)

theorem ixN_nat {n i : Nat} (h : i < n) : ixN n (i : Int) = some i := by
  unfold ixN
  rw [if_pos (by omega), if_pos (by omega), Int.toNat_natCast]
theorem All2.eraseIdx {α β : Type} {R : α → β → Prop} : ∀ {l : List α} {m : List β} (i : Nat), All2 R l m → All2 R (l.eraseIdx i) (m.eraseIdx i)
  | _, _, _, .nil => by
    rw [List.eraseIdx_nil, List.eraseIdx_nil]
    exact .nil
  | _, _, 0, .cons _ t => t
  | _, _, i + 1, .cons h t => .cons h (eraseIdx i t)
section
variable {A : Ad} {G H : Hp} {a dx L : Addr} {rs : List V} {t : Table}
theorem TblAt.fld (h : TblAt A G H a dx L rs t) (c : Nat) (v : Int) : TblAt A G (upd H a (.ins A.c_Table dx (tbF L (c : Int) v))) a dx L rs ⟨t.rows, c, v⟩ := by
  have la : L ≠ a := ne_of h.lst h.ins (by intro z; cases z)
  refine ⟨upd_same, h.ga, by rw [upd_ne la]; exact h.lst, h.gl, h.nd, h.rows.imp fun _ _ ⟨p, e, q, g⟩ => ⟨p, e, ?_, g⟩⟩
  rw [upd_ne (ne_of q h.ins (by intro z; cases z))]
  exact q
theorem TblAt.apart (h : TblAt A G H a dx L rs t) {p : Addr} (hp : V.ref p ∈ rs) : p ≠ L := by
  obtain ⟨row, hrow, p', e, q, g⟩ := h.rows.get (List.getElem?_eq_getElem (List.idxOf_lt_length_of_mem hp))
  rw [List.getElem_idxOf] at e
  have ep := V.ref.inj e
  rintro rfl
  rw [← ep, h.lst] at q
  have q' := HO.lst.inj (Option.some.inj q)
  rw [q'] at hp
  obtain ⟨_, _, z⟩ := List.mem_map.mp hp
  cases z
theorem TblAt.newRows (h : TblAt A G H a dx L rs t) {rs' : List V} {rows' : List (List Int)} (nd : rs'.Nodup) (a2 : All2 (RowH G H) rs' rows') (apart : ∀ p, V.ref p ∈ rs' → p ≠ L) : TblAt A G (upd H L (.lst rs')) a dx L rs' ⟨rows', t.at_, t.clip⟩ := by
  have al : a ≠ L := ne_of h.ins h.lst (by intro z; cases z)
  refine ⟨by rw [upd_ne al]; exact h.ins, h.ga, upd_same, h.gl, nd, a2.imp_mem fun v row hv _ ⟨p, e, q, g⟩ => ⟨p, e, ?_, g⟩⟩
  rw [e] at hv
  rw [upd_ne (apart p hv)]
  exact q
theorem rows_set {p : Addr} {row' : List Int} : ∀ {rs : List V} {rows : List (List Int)} {i : Nat}, All2 (RowH G H) rs rows → rs.Nodup → rs[i]? = some (.ref p) → All2 (RowH G (upd H p (.lst (row'.map V.int)))) rs (rows.set i row')
  | _, _, _, .nil, _, h => by simp at h
  | _, _, 0, .cons ⟨p0, e0, q0, g0⟩ t, nd, h => by
    have e : V.ref p0 = V.ref p := by
      have : some _ = some (V.ref p) := h
      rw [← e0]
      exact Option.some.inj this
    have e' := V.ref.inj e
    subst e'
    rw [List.nodup_cons] at nd
    refine .cons ⟨p0, e0, upd_same, g0⟩ (t.imp_mem fun v row hv _ ⟨p1, e1, q1, g1⟩ => ⟨p1, e1, ?_, g1⟩)
    have : p1 ≠ p0 := fun z => nd.1 (by rw [e0, ← z, ← e1]; exact hv)
    rw [upd_ne this]
    exact q1
  | _, _, i + 1, .cons ⟨p0, e0, q0, g0⟩ t, nd, h => by
    rw [List.nodup_cons] at nd
    rw [List.getElem?_cons_succ] at h
    have hm := List.mem_of_getElem? h
    have : p0 ≠ p := fun z => nd.1 (by rw [e0, z]; exact hm)
    exact .cons ⟨p0, e0, by rw [upd_ne this]; exact q0, g0⟩ (rows_set t nd.2 h)
theorem TblAt.put (h : TblAt A G H a dx L rs t) {p : Addr} {r row' : List Int} (hr : t.rows[t.at_]? = some r) (hp : rs[t.at_]? = some (.ref p)) (hH : H p = some (.lst (r.map V.int))) : TblAt A G (upd H p (.lst (row'.map V.int))) a dx L rs ⟨t.rows.set t.at_ row', t.at_, t.clip⟩ := by
  have ap : a ≠ p := ne_of h.ins hH (by intro z; cases z)
  have lp : L ≠ p := fun z => h.apart (List.mem_of_getElem? hp) z.symm
  exact ⟨by rw [upd_ne ap]; exact h.ins, h.ga, by rw [upd_ne lp]; exact h.lst, h.gl, h.nd, rows_set h.rows h.nd hp⟩
end
section
variable {P : Program} {w : World} {K : PySem.W.Frag} {mg : Str → Option Value} {base : Heap} {A : Ad}
def spDoDeed (A : Ad) : Sp := fun vs H Q _ => ∃ (G : Hp) (a dx L : Addr) (rs : List V) (t t' : Table) (v : V) (d : Deed), vs = [.ref a, v] ∧ Same G H ∧ DeedAt G v d ∧ VamacBase.okDeed d = true ∧ TblAt A G H a dx L rs t ∧ OkT t ∧ VamacBase.doneBy t d = .ok t' ∧ ∀ H' rs', Same G H' → TblAt A G H' a dx L rs' t' → Q .non H'
theorem ok_do_deed (T : Txt K mg A) : Okf P w K mg base CX0 2 A.f_do_deed ["table", "deed"] (spDoDeed A) := by
  have G_found_below := ok_found_below (P := P) (w := w) (base := base) T
  have G_new_value := ok_new_value (P := P) (w := w) (base := base) T
  obtain ⟨fd, F, b⟩ := T.d_do_deed
  refine ⟨fd, F.ok sc_do_deed (fun vs H Q E h => ?_) (fun cdv AA outer s H vs Q E hr h => ?_), b, F.kp⟩
  · obtain ⟨G, a, dx, L, rs, t, t', v, d, rfl, _⟩ := h
    rfl
  obtain ⟨G, a, dx, L, rs, t, t', v, d, rfl, hS, ⟨q, rfl, hq⟩, hd, hT, hok, hdone, kQ⟩ := h
  refine ⟨_, (pss_cons (ps_set (i := 2) sc_do_deed.nd rfl (Or.inl rfl) (pe_ix ix_tup (pv 1) pe_int (fun _ _ => rfl)))
      (pss_one (ps_if (pt_cmpR op_eq (pv 2) (pe_glob (v := V.int 0) rfl T.i_DOWN.choose_spec ⟨_, rfl⟩) (nomark _)) (pss_one (ps_fld (pv 0) (pe_op op_add (pe_fld (pv 0) rfl) pe_int) rfl)) (pss_one (ps_if (pt_cmpR op_eq (pv 2) (pe_glob (v := V.int 1) rfl T.i_UP.choose_spec ⟨_, rfl⟩) (nomark _)) (pss_one (ps_fld (pv 0) (pe_op op_sub (pe_fld (pv 0) rfl) pe_int) rfl)) (pss_one (ps_if (pt_cmpR op_eq (pv 2) (pe_glob (v := V.int 2) rfl T.i_TOP.choose_spec ⟨_, rfl⟩) (nomark _)) (pss_one (ps_fld (pv 0) pe_int rfl)) (pss_one (ps_if (pt_cmpR op_eq (pv 2) (pe_glob (v := V.int 5) rfl T.i_COPY.choose_spec ⟨_, rfl⟩) (nomark _)) (pss_one (ps_fld (pv 0) (pe_ix ix_list (pe_ix ix_list (pe_fld (pv 0) rfl) (pe_fld (pv 0) rfl) (fun _ _ => rfl)) (pe_ix ix_tup (pv 1) pe_int (fun _ _ => rfl)) (fun _ _ => rfl)) rfl)) (pss_one (ps_if (pt_cmpR op_eq (pv 2) (pe_glob (v := V.int 7) rfl T.i_DELETE.choose_spec ⟨_, rfl⟩) (nomark _)) (pss_one (ps_expr (pe_bm PySem.F.plainAttrs_list PySem.F.slot_list_pop PySem.F.type_list_pop mt_popAt (pe_fld (pv 0) rfl) (pa_cons (pe_fld (pv 0) rfl) pa_nil)))) (pss_one (ps_if (pt_cmpR op_eq (pv 2) (pe_glob (v := V.int 8) rfl T.i_DOUBLE.choose_spec ⟨_, rfl⟩) (nomark _)) (pss_one (ps_expr (pe_bm PySem.F.plainAttrs_list PySem.F.slot_list_insert PySem.F.type_list_insert mt_insert (pe_fld (pv 0) rfl) (pa_cons (pe_fld (pv 0) rfl) (pa_cons (pe_callTy call_list_of (by rfl) T.z_list (by decide +kernel) (pa_cons (pe_ix ix_list (pe_fld (pv 0) rfl) (pe_fld (pv 0) rfl) (fun _ _ => rfl)) pa_nil)) pa_nil))))) (pss_one (ps_if (pt_cmpR op_eq (pv 2) (pe_glob (v := V.int 9) rfl T.i_FIND.choose_spec ⟨_, rfl⟩) (nomark _)) (pss_one (ps_fld (pv 0) (call_f G_found_below (hr.mono (by omega)) rfl T.g_found_below pass0 (pa_cons (pv 0) (pa_cons (pe_ix ix_tup (pv 1) pe_int (fun _ _ => rfl)) (pa_cons (pe_ix ix_tup (pv 1) pe_int (fun _ _ => rfl)) pa_nil)))) rfl)) (pss_one (ps_asg (call_f G_new_value (hr.mono (by omega)) rfl T.g_new_value pass0 (pa_cons (pv 0) (pa_cons (pv 1) pa_nil))) (pg_sub (pe_ix ix_list (pe_fld (pv 0) rfl) (pe_fld (pv 0) rfl) (fun _ _ => rfl)) (pe_ix ix_tup (pv 1) pe_int (fun _ _ => rfl)) set_list)))))))))))))))))), ?_⟩
  have hq' := hS _ _ hq
  have hlen := hT.rows.length
  have few := hok.few
  have hat := hok.at_
  have inside : t.at_ < t.rows.length ∨ t.at_ = t.rows.length := by omega
  cases d with
  | down =>
    have hlt : t.at_ < t.rows.length := by
      rcases inside with z | z
      · exact z
      · unfold VamacBase.doneBy at hdone
        rw [end_iff hok, decide_eq_true z] at hdone
        cases hdone
    rw [done_down hok hlt] at hdone
    cases hdone
    refine ⟨_, rfl, q, _, _, .int 0, rfl, rfl, SqT.of hq', rfl, ?_⟩
    refine ⟨_, rfl, rfl, _, rfl, if_true_of rfl ?_⟩
    refine ⟨_, rfl, a, _, dx, _, _, rfl, hT.ins, T.cl_Table, T.na_Table_cursor, tb_cursor, _, _, rfl, rfl, _, rfl, a, _, dx, _, rfl, hT.ins, T.cl_Table, T.na_Table_cursor, (by show 3 < 1000; decide), ?_⟩
    rw [tb_setc, show ((t.at_ : Int) + 1) = ((t.at_ + 1 : Nat) : Int) by omega]
    exact kQ _ rs (Same.set hS hT.ga) (hT.fld (t.at_ + 1) t.clip)
  | up =>
    have c : ¬ t.at_ = 0 := fun z => by
      rw [done_up, if_pos z] at hdone
      cases hdone
    rw [done_up, if_neg c] at hdone
    cases hdone
    refine ⟨_, rfl, q, _, _, .int 1, rfl, rfl, SqT.of hq', rfl, ?_⟩
    refine ⟨_, rfl, rfl, _, rfl, if_false_of rfl ?_⟩
    refine ⟨_, rfl, rfl, _, rfl, if_true_of rfl ?_⟩
    refine ⟨_, rfl, a, _, dx, _, _, rfl, hT.ins, T.cl_Table, T.na_Table_cursor, tb_cursor, _, _, rfl, rfl, _, rfl, a, _, dx, _, rfl, hT.ins, T.cl_Table, T.na_Table_cursor, (by show 3 < 1000; decide), ?_⟩
    rw [tb_setc, show ((t.at_ : Int) - 1) = ((t.at_ - 1 : Nat) : Int) by omega]
    exact kQ _ rs (Same.set hS hT.ga) (hT.fld (t.at_ - 1) t.clip)
  | top =>
    cases hdone
    refine ⟨_, rfl, q, _, _, .int 2, rfl, rfl, SqT.of hq', rfl, ?_⟩
    refine ⟨_, rfl, rfl, _, rfl, if_false_of rfl ?_⟩
    refine ⟨_, rfl, rfl, _, rfl, if_false_of rfl ?_⟩
    refine ⟨_, rfl, rfl, _, rfl, if_true_of rfl ?_⟩
    refine ⟨_, rfl, a, _, dx, _, rfl, hT.ins, T.cl_Table, T.na_Table_cursor, (by show 3 < 1000; decide), ?_⟩
    rw [tb_setc]
    exact kQ _ rs (Same.set hS hT.ga) (hT.fld 0 t.clip)
  | copy f =>
    have hlt : t.at_ < t.rows.length := by
      rcases inside with z | z
      · exact z
      · have hn : VamacBase.here t f = none := by
          unfold VamacBase.here
          rw [z, List.getElem?_eq_none (Nat.le_refl _)]
          rfl
        unfold VamacBase.doneBy at hdone
        simp only [hn] at hdone
        cases hdone
    obtain ⟨r, y, h1, h2, h3, h4, _⟩ := here_some hok hlt (field_lt hd)
    rw [done_copy h3] at hdone
    cases hdone
    obtain ⟨p, hp1, hp2, _⟩ := hT.row h1
    refine ⟨_, rfl, q, _, _, .int 5, rfl, rfl, SqT.of hq', rfl, ?_⟩
    refine ⟨_, rfl, rfl, _, rfl, if_false_of rfl ?_⟩
    refine ⟨_, rfl, rfl, _, rfl, if_false_of rfl ?_⟩
    refine ⟨_, rfl, rfl, _, rfl, if_false_of rfl ?_⟩
    refine ⟨_, rfl, rfl, _, rfl, if_true_of rfl ?_⟩
    refine ⟨_, rfl, a, _, dx, _, _, rfl, hT.ins, T.cl_Table, T.na_Table_rows, tb_rows, _, rfl, a, _, dx, _, _, rfl, hT.ins, T.cl_Table, T.na_Table_cursor, tb_cursor, L, rs, _, .ref p, rfl, rfl, SqL.of hT.lst, atI_nat hp1, _, rfl, q, _, _, .int (f : Int), rfl, rfl, SqT.of hq', rfl, p, _, _, .int y, rfl, rfl, SqL.of hp2, atI_nat (by rw [List.getElem?_map, h2]; rfl), _, rfl, a, _, dx, _, rfl, hT.ins, T.cl_Table, T.na_Table_clipboard, (by show 3 < 1000; decide), ?_⟩
    rw [tb_setv]
    exact kQ _ rs (Same.set hS hT.ga) (hT.fld t.at_ y)
  | delete =>
    have hlt : t.at_ < t.rows.length := by
      rcases inside with z | z
      · exact z
      · unfold VamacBase.doneBy at hdone
        rw [end_iff hok, decide_eq_true z] at hdone
        cases hdone
    rw [done_delete hok hlt] at hdone
    cases hdone
    obtain ⟨y, hy⟩ : ∃ y, rs[t.at_]? = some y := ⟨_, List.getElem?_eq_getElem (by omega)⟩
    refine ⟨_, rfl, q, _, _, .int 7, rfl, rfl, SqT.of hq', rfl, ?_⟩
    refine ⟨_, rfl, rfl, _, rfl, if_false_of rfl ?_⟩
    refine ⟨_, rfl, rfl, _, rfl, if_false_of rfl ?_⟩
    refine ⟨_, rfl, rfl, _, rfl, if_false_of rfl ?_⟩
    refine ⟨_, rfl, rfl, _, rfl, if_false_of rfl ?_⟩
    refine ⟨_, rfl, rfl, _, rfl, if_true_of rfl ?_⟩
    refine ⟨_, rfl, a, _, dx, _, _, rfl, hT.ins, T.cl_Table, T.na_Table_rows, tb_rows, .inl ⟨rfl, _, SqL.of hT.lst⟩, _, rfl, a, _, dx, _, _, rfl, hT.ins, T.cl_Table, T.na_Table_cursor, tb_cursor, L, rs, _, t.at_, y, rfl, rfl, hT.lst, by omega, by omega, (ixN_seq (ixN_nat (by omega))).1, hy, ?_⟩
    exact kQ _ _ (Same.set hS hT.gl) (hT.newRows ((List.eraseIdx_sublist ..).nodup hT.nd) (hT.rows.eraseIdx t.at_) fun p hp => hT.apart ((List.eraseIdx_sublist ..).subset hp))
  | double =>
    have hlt : t.at_ < t.rows.length := by
      rcases inside with z | z
      · exact z
      · unfold VamacBase.doneBy at hdone
        rw [end_iff hok, decide_eq_true z] at hdone
        cases hdone
    have h8 : t.rows.length < 8 := by
      by_cases z : t.rows.length = 8
      · rw [done_full hok hlt z] at hdone
        cases hdone
      · omega
    rw [done_double hok hlt h8] at hdone
    cases hdone
    obtain ⟨p, hp1, hp2, _⟩ := hT.row (List.getElem?_eq_getElem hlt)
    refine ⟨_, rfl, q, _, _, .int 8, rfl, rfl, SqT.of hq', rfl, ?_⟩
    refine ⟨_, rfl, rfl, _, rfl, if_false_of rfl ?_⟩
    refine ⟨_, rfl, rfl, _, rfl, if_false_of rfl ?_⟩
    refine ⟨_, rfl, rfl, _, rfl, if_false_of rfl ?_⟩
    refine ⟨_, rfl, rfl, _, rfl, if_false_of rfl ?_⟩
    refine ⟨_, rfl, rfl, _, rfl, if_false_of rfl ?_⟩
    refine ⟨_, rfl, rfl, _, rfl, if_true_of rfl ?_⟩
    refine ⟨_, rfl, a, _, dx, _, _, rfl, hT.ins, T.cl_Table, T.na_Table_rows, tb_rows, .inl ⟨rfl, _, SqL.of hT.lst⟩, _, rfl, a, _, dx, _, _, rfl, hT.ins, T.cl_Table, T.na_Table_cursor, tb_cursor, _, rfl, a, _, dx, _, _, rfl, hT.ins, T.cl_Table, T.na_Table_rows, tb_rows, _, rfl, a, _, dx, _, _, rfl, hT.ins, T.cl_Table, T.na_Table_cursor, tb_cursor, L, rs, _, .ref p, rfl, rfl, SqL.of hT.lst, atI_nat hp1, p, _, rfl, .inl (SqL.of hp2), fun u hu => ?_⟩
    have hT1 := hT.keep (same_new (o := .lst ((t.rows[t.at_]).map V.int)) hu)
    have S1 : Same G (upd H u (.lst ((t.rows[t.at_]).map V.int))) := hS.trans (same_new hu)
    have gu : G u = none := hS.free hu
    have uL : u ≠ L := fun z => by
      rw [z, hT.lst] at hu
      cases hu
    have unew : V.ref u ∉ rs := fun z => by
      obtain ⟨row, hrow, p', e, q', g⟩ := hT.rows.get (List.getElem?_eq_getElem (List.idxOf_lt_length_of_mem z))
      rw [List.getElem_idxOf] at e
      rw [← V.ref.inj e, hu] at q'
      cases q'
    refine ⟨L, rs, _, .ref u, rfl, rfl, hT1.lst, small1000 (by omega), by omega, by omega, ?_⟩
    rw [Int.toNat_natCast]
    refine kQ _ _ (Same.set S1 hT.gl) (hT1.newRows ?_ ?_ fun p' hp' => ?_)
    · have pm : (rs.take t.at_ ++ [V.ref u] ++ rs.drop t.at_).Perm (V.ref u :: rs) := by
        rw [List.append_assoc]
        have := List.perm_middle (a := V.ref u) (l₁ := rs.take t.at_) (l₂ := rs.drop t.at_)
        rw [List.take_append_drop] at this
        exact this
      rw [pm.nodup_iff, List.nodup_cons]
      exact ⟨unew, hT.nd⟩
    · have et : t.rows.take (t.at_ + 1) ++ t.rows.drop t.at_ = t.rows.take t.at_ ++ [t.rows[t.at_]] ++ t.rows.drop t.at_ := by
        rw [List.take_add_one, List.getElem?_eq_getElem hlt]
        rfl
      rw [et]
      exact ((hT1.rows.take t.at_).append (.one ⟨u, rfl, upd_same, gu⟩)).append (hT1.rows.drop t.at_)
    · rcases List.mem_append.mp hp' with z | z
      · rcases List.mem_append.mp z with z | z
        · exact hT.apart (List.mem_of_mem_take z)
        · rw [V.ref.inj (List.mem_singleton.mp z)]
          exact uL
      · exact hT.apart (List.mem_of_mem_drop z)
  | find f x =>
    have hf : f < 3 := by
      have hd' : (VamacBase.okField f && VamacBase.okValue x) = true := hd
      rw [Bool.and_eq_true] at hd'
      exact field_lt hd'.1
    rw [done_find] at hdone
    cases hfo : foundB t f x with
    | none =>
      rw [hfo] at hdone
      cases hdone
    | some i =>
    rw [hfo] at hdone
    cases hdone
    refine ⟨_, rfl, q, _, _, .int 9, rfl, rfl, SqT.of hq', rfl, ?_⟩
    refine ⟨_, rfl, rfl, _, rfl, if_false_of rfl ?_⟩
    refine ⟨_, rfl, rfl, _, rfl, if_false_of rfl ?_⟩
    refine ⟨_, rfl, rfl, _, rfl, if_false_of rfl ?_⟩
    refine ⟨_, rfl, rfl, _, rfl, if_false_of rfl ?_⟩
    refine ⟨_, rfl, rfl, _, rfl, if_false_of rfl ?_⟩
    refine ⟨_, rfl, rfl, _, rfl, if_false_of rfl ?_⟩
    refine ⟨_, rfl, rfl, _, rfl, if_true_of rfl ?_⟩
    refine ⟨_, rfl, _, rfl, q, _, _, .int (f : Int), rfl, rfl, SqT.of hq', rfl, _, rfl, q, _, _, .int x, rfl, rfl, SqT.of hq', rfl, G, a, dx, L, rs, t, _, x, f, rfl, rfl, hf, hT, hok, ?_⟩
    rw [hfo]
    refine ⟨_, rfl, a, _, dx, _, rfl, hT.ins, T.cl_Table, T.na_Table_cursor, (by show 3 < 1000; decide), ?_⟩
    show Q .non (upd H a (.ins A.c_Table dx (putF "cursor" (.int (i : Int)) (tbF L (t.at_ : Int) t.clip))))
    rw [tb_setc]
    exact kQ _ rs (Same.set hS hT.ga) (hT.fld i t.clip)
  | write f x =>
    have hf : f < 3 := by
      have hd' : (VamacBase.okField f && VamacBase.okValue x) = true := hd
      rw [Bool.and_eq_true] at hd'
      exact field_lt hd'.1
    have hw : VamacBase.written t f (newV t (.write f x)) = .ok t' := hdone
    obtain ⟨_, rfl, hlt, hv⟩ := written_ok hok hw
    obtain ⟨r, y, h1, h2, h3, h4, _⟩ := here_some hok hlt hf
    obtain ⟨p, hp1, hp2, gp⟩ := hT.row h1
    refine ⟨_, rfl, q, _, _, .int 3, rfl, rfl, SqT.of hq', rfl, ?_⟩
    refine ⟨_, rfl, rfl, _, rfl, if_false_of rfl ?_⟩
    refine ⟨_, rfl, rfl, _, rfl, if_false_of rfl ?_⟩
    refine ⟨_, rfl, rfl, _, rfl, if_false_of rfl ?_⟩
    refine ⟨_, rfl, rfl, _, rfl, if_false_of rfl ?_⟩
    refine ⟨_, rfl, rfl, _, rfl, if_false_of rfl ?_⟩
    refine ⟨_, rfl, rfl, _, rfl, if_false_of rfl ?_⟩
    refine ⟨_, rfl, rfl, _, rfl, if_false_of rfl ?_⟩
    refine ⟨_, rfl, _, rfl, G, a, dx, L, rs, t, _, .write f x, rfl, hS, ⟨q, rfl, hq⟩, hd, rfl, hT, hok, hlt, _, rfl, a, _, dx, _, _, rfl, hT.ins, T.cl_Table, T.na_Table_rows, tb_rows, _, rfl, a, _, dx, _, _, rfl, hT.ins, T.cl_Table, T.na_Table_cursor, tb_cursor, L, rs, _, .ref p, rfl, rfl, SqL.of hT.lst, atI_nat hp1, _, rfl, q, _, _, .int (f : Int), rfl, rfl, SqT.of hq', rfl, p, _, _, f, rfl, rfl, hp2, ixN_nat (by rw [List.length_map]; omega), ?_⟩
    have es : (r.map V.int).set f (.int (newV t (.write f x))) = (r.set f (newV t (.write f x))).map V.int := by
      rw [List.map_set]
    rw [es]
    refine kQ _ rs (Same.set hS gp) ?_
    have e2 : VamacBase.setHere t f (newV t (.write f x)) = ⟨t.rows.set t.at_ (r.set f (newV t (.write f x))), t.at_, t.clip⟩ := by
      unfold VamacBase.setHere
      rw [h1]
    rw [e2]
    exact hT.put h1 hp1 hp2
  | add f x =>
    have hf : f < 3 := by
      have hd' : (VamacBase.okField f && VamacBase.okValue x) = true := hd
      rw [Bool.and_eq_true] at hd'
      exact field_lt hd'.1
    have hw : VamacBase.written t f (newV t (.add f x)) = .ok t' := hdone
    obtain ⟨_, rfl, hlt, hv⟩ := written_ok hok hw
    obtain ⟨r, y, h1, h2, h3, h4, _⟩ := here_some hok hlt hf
    obtain ⟨p, hp1, hp2, gp⟩ := hT.row h1
    refine ⟨_, rfl, q, _, _, .int 4, rfl, rfl, SqT.of hq', rfl, ?_⟩
    refine ⟨_, rfl, rfl, _, rfl, if_false_of rfl ?_⟩
    refine ⟨_, rfl, rfl, _, rfl, if_false_of rfl ?_⟩
    refine ⟨_, rfl, rfl, _, rfl, if_false_of rfl ?_⟩
    refine ⟨_, rfl, rfl, _, rfl, if_false_of rfl ?_⟩
    refine ⟨_, rfl, rfl, _, rfl, if_false_of rfl ?_⟩
    refine ⟨_, rfl, rfl, _, rfl, if_false_of rfl ?_⟩
    refine ⟨_, rfl, rfl, _, rfl, if_false_of rfl ?_⟩
    refine ⟨_, rfl, _, rfl, G, a, dx, L, rs, t, _, .add f x, rfl, hS, ⟨q, rfl, hq⟩, hd, rfl, hT, hok, hlt, _, rfl, a, _, dx, _, _, rfl, hT.ins, T.cl_Table, T.na_Table_rows, tb_rows, _, rfl, a, _, dx, _, _, rfl, hT.ins, T.cl_Table, T.na_Table_cursor, tb_cursor, L, rs, _, .ref p, rfl, rfl, SqL.of hT.lst, atI_nat hp1, _, rfl, q, _, _, .int (f : Int), rfl, rfl, SqT.of hq', rfl, p, _, _, f, rfl, rfl, hp2, ixN_nat (by rw [List.length_map]; omega), ?_⟩
    have es : (r.map V.int).set f (.int (newV t (.add f x))) = (r.set f (newV t (.add f x))).map V.int := by
      rw [List.map_set]
    rw [es]
    refine kQ _ rs (Same.set hS gp) ?_
    have e2 : VamacBase.setHere t f (newV t (.add f x)) = ⟨t.rows.set t.at_ (r.set f (newV t (.add f x))), t.at_, t.clip⟩ := by
      unfold VamacBase.setHere
      rw [h1]
    rw [e2]
    exact hT.put h1 hp1 hp2
  | paste f =>
    have hf : f < 3 := field_lt hd
    have hw : VamacBase.written t f (newV t (.paste f)) = .ok t' := hdone
    obtain ⟨_, rfl, hlt, hv⟩ := written_ok hok hw
    obtain ⟨r, y, h1, h2, h3, h4, _⟩ := here_some hok hlt hf
    obtain ⟨p, hp1, hp2, gp⟩ := hT.row h1
    refine ⟨_, rfl, q, _, _, .int 6, rfl, rfl, SqT.of hq', rfl, ?_⟩
    refine ⟨_, rfl, rfl, _, rfl, if_false_of rfl ?_⟩
    refine ⟨_, rfl, rfl, _, rfl, if_false_of rfl ?_⟩
    refine ⟨_, rfl, rfl, _, rfl, if_false_of rfl ?_⟩
    refine ⟨_, rfl, rfl, _, rfl, if_false_of rfl ?_⟩
    refine ⟨_, rfl, rfl, _, rfl, if_false_of rfl ?_⟩
    refine ⟨_, rfl, rfl, _, rfl, if_false_of rfl ?_⟩
    refine ⟨_, rfl, rfl, _, rfl, if_false_of rfl ?_⟩
    refine ⟨_, rfl, _, rfl, G, a, dx, L, rs, t, _, .paste f, rfl, hS, ⟨q, rfl, hq⟩, hd, rfl, hT, hok, hlt, _, rfl, a, _, dx, _, _, rfl, hT.ins, T.cl_Table, T.na_Table_rows, tb_rows, _, rfl, a, _, dx, _, _, rfl, hT.ins, T.cl_Table, T.na_Table_cursor, tb_cursor, L, rs, _, .ref p, rfl, rfl, SqL.of hT.lst, atI_nat hp1, _, rfl, q, _, _, .int (f : Int), rfl, rfl, SqT.of hq', rfl, p, _, _, f, rfl, rfl, hp2, ixN_nat (by rw [List.length_map]; omega), ?_⟩
    have es : (r.map V.int).set f (.int (newV t (.paste f))) = (r.set f (newV t (.paste f))).map V.int := by
      rw [List.map_set]
    rw [es]
    refine kQ _ rs (Same.set hS gp) ?_
    have e2 : VamacBase.setHere t f (newV t (.paste f)) = ⟨t.rows.set t.at_ (r.set f (newV t (.paste f))), t.at_, t.clip⟩ := by
      unfold VamacBase.setHere
      rw [h1]
    rw [e2]
    exact hT.put h1 hp1 hp2
end
end Lf

set_option Elab.async false
set_option linter.all false
set_option maxRecDepth 100000
set_option maxHeartbeats 4000000
/-! # A run, play -/
namespace Lf
open PySem PySem.Spec PyProof.Rows L2
open VamacBase (Deed Prog Table whole readTable)
section
variable {P : Program} {w : World} {K : PySem.W.Frag} {mg : Str → Option Value} {base : Heap} {A : Ad}
def spRun (A : Ad) : Sp := fun vs H Q _ => ∃ (G : Hp) (a dx L l : Addr) (rs ws : List V) (t : Table) (ds : List Deed), vs = [.ref a, .ref l] ∧ Same G H ∧ G l = some (.lst ws) ∧ All2 (DeedAt G) ws ds ∧ (∀ d ∈ ds, VamacBase.okDeed d = true) ∧ TblAt A G H a dx L rs t ∧ OkT t ∧
  ∀ (H' : Hp) (r : Addr) (rs' : List V), Same G H' → G r = none → H' r = some (.lst [.int (runD t ds 0).1, .int ((runD t ds 0).2.1 : Int)]) → TblAt A G H' a dx L rs' (runD t ds 0).2.2 → OkT (runD t ds 0).2.2 → Q (.ref r) H'
theorem ok_run_deeds (T : Txt K mg A) : Okf P w K mg base CX0 3 A.f_run_deeds ["table", "deeds"] (spRun A) := by
  have G_fault_of := ok_fault_of (P := P) (w := w) (base := base) T
  have G_do_deed := ok_do_deed (P := P) (w := w) (base := base) T
  obtain ⟨fd, F, b⟩ := T.d_run_deeds
  refine ⟨fd, F.ok sc_run_deeds (fun vs H Q E h => ?_) (fun cdv AA outer s H vs Q E hr h => ?_), b, F.kp⟩
  · obtain ⟨G, a, dx, L, l, rs, ws, t, ds, rfl, _⟩ := h
    rfl
  obtain ⟨G, a, dx, L, l, rs, ws, t, ds, rfl, hS, hl, a1, hds, hT, hok, kQ⟩ := h
  refine ⟨_, (pss_cons (ps_set (i := 2) sc_run_deeds.nd rfl (Or.inl rfl) pe_int)
      (pss_cons (ps_for PassesOwn.never rfl (pi_list (pv 1)) (pg_name (i := 3) sc_run_deeds.nd rfl (Or.inl rfl)) (pss_cons (ps_set (i := 4) sc_run_deeds.nd rfl (Or.inl rfl) (call_f G_fault_of (hr.mono (by omega)) rfl T.g_fault_of pass0 (pa_cons (pv 0) (pa_cons (pv 3) pa_nil))))
      (pss_cons (ps_if (pt_cmpR op_ne (pv 4) (pe_glob (v := V.int 0) rfl T.i_WELL.choose_spec ⟨_, rfl⟩) (nomark _)) (pss_one (ps_ret (pe_lst (pa_cons (pv 4) (pa_cons (pv 2) pa_nil))))) pss_nil)
      (pss_cons (ps_expr (call_f G_do_deed (hr.mono (by omega)) rfl T.g_do_deed pass0 (pa_cons (pv 0) (pa_cons (pv 3) pa_nil))))
      (pss_one (ps_set (i := 2) sc_run_deeds.nd rfl (Or.inl rfl) (pe_op op_add (pv 2) pe_int)))))))
      (pss_one (ps_ret (pe_lst (pa_cons (pe_glob (v := V.int 0) rfl T.i_WELL.choose_spec ⟨_, rfl⟩) (pa_cons (pv 2) pa_nil))))))), ?_⟩
  have hlen := a1.length
  generalize hrun : runD t ds 0 = res at kQ
  refine ⟨_, rfl, l, rfl, ⟨_, SqL.of (hS _ _ hl)⟩, for_list (K := K) (a := l) (xs := ws) (fun i σ H' => ∃ (v3 v4 : Option V) (dn : Int) (rs' : List V) (ti : Table), dn = (i : Nat) ∧ σ = [some (.ref a), some (.ref l), some (.int dn), v3, v4] ∧ Same G H' ∧ TblAt A G H' a dx L rs' ti ∧ OkT ti ∧ runD ti (ds.drop i) i = res)
    ⟨none, none, 0, rs, t, rfl, rfl, hS, hT, hok, hrun⟩ ?_ ?_ ?_⟩
  · rintro i σ H' _ ⟨v3, v4, dn, rs', ti, hdn, rfl, S1, _⟩
    exact SqL.of (S1 _ _ hl)
  · rintro i y σ H' hi ⟨v3, v4, dn, rs', ti, hdn, rfl, S1, T1, ok1, e1⟩
    obtain ⟨d, hd, Dd⟩ := a1.get hi
    have okd := hds d (List.mem_of_getElem? hd)
    have hil : i < ds.length := (List.getElem?_eq_some_iff.mp hd).1
    have edrop : ds.drop i = d :: ds.drop (i + 1) := by
      rw [List.drop_eq_getElem_cons hil]
      congr 1
      rw [List.getElem?_eq_getElem hil] at hd
      exact Option.some.inj hd
    rw [edrop, runD] at e1
    -- fault = fault_of(table, deed)
    refine ⟨_, rfl, _, rfl, G, a, dx, L, rs', ti, _, d, rfl, S1, Dd, okd, T1, ok1, fun H2 s2 => ?_⟩
    have S2 := S1.trans s2
    have T2 := T1.keep s2
    refine ⟨_, rfl, rfl, _, rfl, ?_⟩
    cases hdone : VamacBase.doneBy ti d with
    | error f =>
      have ef : faultN ti d = VamacBase.faultNumber f := by
        unfold faultN
        rw [hdone]
      rw [hdone] at e1
      rw [ef]
      refine if_true_of (by cases f <;> rfl) ?_
      refine ⟨_, rfl, _, rfl, (by show 2 ≤ sizeLine; decide), fun r hr' => ?_⟩
      rw [← e1] at kQ
      refine kQ _ r rs' (S2.trans (same_new hr')) (S2.free hr') ?_ (T2.keep (same_new hr')) ok1
      rw [upd_same, hdn]
    | ok t' =>
      have ef : faultN ti d = 0 := by
        unfold faultN
        rw [hdone]
      rw [hdone] at e1
      rw [ef]
      refine if_false_of rfl ?_
      refine ⟨_, rfl, _, rfl, G, a, dx, L, rs', ti, t', _, d, rfl, S2, Dd, okd, T2, ok1, hdone, fun H3 rs3 S3 T3 => ?_⟩
      refine ⟨_, rfl, _, _, rfl, rfl, ?_⟩
      exact ⟨_, _, dn + 1, rs3, t', by rw [hdn, Int.natCast_add]; rfl, rfl, S3, T3, done_ok ok1 okd hdone, e1⟩
  · rintro σ H' ⟨v3, v4, dn, rs', ti, hdn, rfl, S1, T1, ok1, e1⟩
    rw [hlen, List.drop_length, runD] at e1
    rw [← e1] at kQ
    refine ⟨_, rfl, (by show 2 ≤ sizeLine; decide), fun r hr' => ?_⟩
    refine kQ _ r rs' (S1.trans (same_new hr')) (S1.free hr') ?_ (T1.keep (same_new hr')) ok1
    rw [upd_same, hdn, hlen]
theorem ok_play (T : Txt K mg A) : Okf P w K mg base (L2.CX P w) 4 A.f_Recording_play ["self", "numbers"] (spCall1 A .play) := by
  have G_whole_table := ok_whole_table (P := P) (w := w) (base := base) T
  have G_run_deeds := ok_run_deeds (P := P) (w := w) (base := base) T
  have G_table_as_numbers := ok_table_as_numbers (P := P) (w := w) (base := base) T
  obtain ⟨fd, F, b⟩ := T.d_Recording_play
  refine ⟨fd, F.okX sc_Recording_play (fun vs H Q E h => ?_) (fun cdv AA outer s H vs Q E hr h => ?_), b, F.kp⟩
  · obtain ⟨a, l, n, ds, ns, rfl, _⟩ := h
    rfl
  obtain ⟨a, l, n, ds, ns, rfl, hR, hn, kE, kQ⟩ := h
  refine ⟨_, (pss_cons (ps_set (i := 2) sc_Recording_play.nd rfl (Or.inl rfl) (call_f G_whole_table (hr.mono (by omega)) rfl T.g_whole_table (passes_call (takes_of rfl rfl rfl rfl) (fun _ _ _ _ h => h)) (pa_cons (pv 1) pa_nil)))
      (pss_cons (ps_set (i := 3) sc_Recording_play.nd rfl (Or.inl rfl) (call_f G_run_deeds (hr.mono (by omega)) rfl T.g_run_deeds pass0 (pa_cons (pv 2) (pa_cons (pe_fld (pv 0) rfl) pa_nil))))
      (pss_one (ps_ret (pe_op op_cat (pv 3) (call_f G_table_as_numbers (hr.mono (by omega)) rfl T.g_table_as_numbers pass0 (pa_cons (pv 2) pa_nil))))))), ?_⟩
  obtain ⟨dx, vs0, r1, r2, r3, r4, r5⟩ := id hR
  have est : Vamacb.step ⟨ds⟩ (.play ns) = (⟨ds⟩, match whole readTable ns with | none => [-1] | some t => VamacBase.badNumber (VamacBase.run (Vamacb.leastOf ds) t).bad :: Vamacb.int (VamacBase.run (Vamacb.leastOf ds) t).trace.length :: VamacBase.flatTable (VamacBase.run (Vamacb.leastOf ds) t).table) := rfl
  rw [est] at kE kQ
  refine ⟨_, rfl, H, n, ns, rfl, Same.refl _, hn, fun e H1 x1 => ?_, fun t e tok H1 ta dt L rs x1 T1 => ?_⟩
  · rw [e] at kE
    exact kE _ rfl H1 (After.same x1.same hR)
  · rw [e] at kQ
    simp only [play_eq r4] at kQ
    have S1 := x1.same
    refine ⟨_, rfl, _, rfl, a, _, dx, _, _, rfl, S1 _ _ r1, T.cl_Recording, T.na_Recording_deeds, rec_deeds, H, ta, dt, L, l, rs, vs0, t, ds, rfl, S1, r2, r3, r5, T1, tok, fun H2 r rs2 S2 nr hr2 T2 ok2 => ?_⟩
    refine ⟨_, rfl, _, rfl, H, ta, dt, L, rs2, _, rfl, T2, ok2, fun H3 u s3 nu hu => ?_⟩
    have hr3 := s3 _ _ hr2
    have fl : (VamacBase.flatTable (runD t ds 0).2.2).length ≤ 27 := by
      have := ok2.few
      show (_ :: ((runD t ds 0).2.2.rows.flatten ++ [_, _])).length ≤ 27
      rw [List.length_cons, List.length_append, flat_rows_le fun y hy => (ok2.rows y hy).1]
      simp only [List.length_cons, List.length_nil]
      omega
    refine ⟨r, u, _, _, rfl, rfl, hr3, hu, small (by rw [List.length_map]; simp only [List.length_cons, List.length_nil]; omega), fun z hz => ?_⟩
    have S3 := S2.trans s3
    exact kQ (refusal_pos (runD_pos _ _ _)) _ z (After.same (S3.trans (same_new hz)) hR) (S3.free hz) upd_same
end
end Lf

set_option Elab.async false
set_option linter.all false
set_option maxRecDepth 100000
set_option maxHeartbeats 4000000
/-! # Call by call -/
namespace Lf
open PySem PySem.Spec PyProof.Rows L2
open VamacBase (Deed Prog)
section
variable {P : Program} {w : World} {K : PySem.W.Frag} {mg : Str → Option Value} {base : Heap} {A : Ad}
theorem Out.calm {H : Hp} {a l : Addr} {r : Vamacb.State × List Int} {Q : VK} {E E' : XK} (h : refusal A r.2 = none) (o : Out A H a l r Q E) : Out A H a l r Q E' := by
  refine ⟨fun e he => ?_, o.2⟩
  rw [h] at he
  cases he
theorem calm_next (ds : List Deed) : refusal A (Vamacb.step ⟨ds⟩ .next).2 = none := by
  show refusal A (match Vamacb.guess ds with | none => [0] | some g => 1 :: Vamacb.int g.period :: Vamacb.int g.tail :: VamacBase.flatDeed g.deed) = none
  split
  · exact refusal_pos (by decide)
  · exact refusal_pos (by decide)
theorem ok_do_call (T : Txt K mg A) : Okf P w K mg base (L2.CX P w) 14 A.f_do_call ["recording", "call", "numbers"] (spDo A) := by
  have G_Recording_record := ok_record (P := P) (w := w) (base := base) T
  have G_Recording_add := ok_add (P := P) (w := w) (base := base) T
  have G_Recording_drop := ok_drop (P := P) (w := w) (base := base) T
  have G_Recording_count := ok_countM (P := P) (w := w) (base := base) T
  have G_Recording_least := ok_least (P := P) (w := w) (base := base) T
  have G_Recording_is_it := ok_is_it (P := P) (w := w) (base := base) T
  have G_Recording_unroll := ok_unroll (P := P) (w := w) (base := base) T
  have G_Recording_next_one := ok_next_one (P := P) (w := w) (base := base) T
  have G_Recording_loops := ok_loops (P := P) (w := w) (base := base) T
  have G_Recording_play := ok_play (P := P) (w := w) (base := base) T
  have G_Recording_told := ok_told (P := P) (w := w) (base := base) T
  obtain ⟨fd, F, b⟩ := T.d_do_call
  refine ⟨fd, F.okX sc_do_call (fun vs H Q E h => ?_) (fun cdv AA outer s H vs Q E hr h => ?_), b, F.kp⟩
  · obtain ⟨a, l, n, c, ds, ns, k, rfl, _⟩ := h
    rfl
  obtain ⟨a, l, n, c, ds, ns, k, rfl, hk, hR, hn, out⟩ := h
  refine ⟨_, (pss_cons (ps_if (pt_cmpR op_eq (pv 1) (pe_glob (v := V.int 0) rfl T.i_RECORD.choose_spec ⟨_, rfl⟩) (nomark _)) (pss_one (ps_ret (call_m (pv 0) T.cl_Recording T.me_Recording_record G_Recording_record (hr.mono (by omega)) (passes_call (takes_of rfl rfl rfl rfl) (fun _ _ _ _ h => h)) (pa_cons (pv 2) pa_nil)))) pss_nil)
      (pss_cons (ps_if (pt_cmpR op_eq (pv 1) (pe_glob (v := V.int 1) rfl T.i_ADD_recording.choose_spec ⟨_, rfl⟩) (nomark _)) (pss_one (ps_ret (call_m (pv 0) T.cl_Recording T.me_Recording_add G_Recording_add (hr.mono (by omega)) (passes_call (takes_of rfl rfl rfl rfl) (fun _ _ _ _ h => h)) (pa_cons (pv 2) pa_nil)))) pss_nil)
      (pss_cons (ps_if (pt_cmpR op_eq (pv 1) (pe_glob (v := V.int 2) rfl T.i_DROP.choose_spec ⟨_, rfl⟩) (nomark _)) (pss_one (ps_ret (call_m0 (pv 0) T.cl_Recording T.me_Recording_drop G_Recording_drop (hr.mono (by omega)) (passes_call (takes_of rfl rfl rfl rfl) (fun _ _ _ _ h => h))))) pss_nil)
      (pss_cons (ps_if (pt_cmpR op_eq (pv 1) (pe_glob (v := V.int 3) rfl T.i_COUNT.choose_spec ⟨_, rfl⟩) (nomark _)) (pss_one (ps_ret (call_m0 (pv 0) T.cl_Recording T.me_Recording_count G_Recording_count (hr.mono (by omega)) pass0))) pss_nil)
      (pss_cons (ps_if (pt_cmpR op_eq (pv 1) (pe_glob (v := V.int 4) rfl T.i_LEAST.choose_spec ⟨_, rfl⟩) (nomark _)) (pss_one (ps_ret (call_m0 (pv 0) T.cl_Recording T.me_Recording_least G_Recording_least (hr.mono (by omega)) pass0))) pss_nil)
      (pss_cons (ps_if (pt_cmpR op_eq (pv 1) (pe_glob (v := V.int 5) rfl T.i_IS_IT.choose_spec ⟨_, rfl⟩) (nomark _)) (pss_one (ps_ret (call_m (pv 0) T.cl_Recording T.me_Recording_is_it G_Recording_is_it (hr.mono (by omega)) (passes_call (takes_of rfl rfl rfl rfl) (fun _ _ _ _ h => h)) (pa_cons (pv 2) pa_nil)))) pss_nil)
      (pss_cons (ps_if (pt_cmpR op_eq (pv 1) (pe_glob (v := V.int 6) rfl T.i_UNROLL.choose_spec ⟨_, rfl⟩) (nomark _)) (pss_one (ps_ret (call_m (pv 0) T.cl_Recording T.me_Recording_unroll G_Recording_unroll (hr.mono (by omega)) (passes_call (takes_of rfl rfl rfl rfl) (fun _ _ _ _ h => h)) (pa_cons (pv 2) pa_nil)))) pss_nil)
      (pss_cons (ps_if (pt_cmpR op_eq (pv 1) (pe_glob (v := V.int 7) rfl T.i_NEXT_ONE.choose_spec ⟨_, rfl⟩) (nomark _)) (pss_one (ps_ret (call_m0 (pv 0) T.cl_Recording T.me_Recording_next_one G_Recording_next_one (hr.mono (by omega)) pass0))) pss_nil)
      (pss_cons (ps_if (pt_cmpR op_eq (pv 1) (pe_glob (v := V.int 8) rfl T.i_LOOPS.choose_spec ⟨_, rfl⟩) (nomark _)) (pss_one (ps_ret (call_m0 (pv 0) T.cl_Recording T.me_Recording_loops G_Recording_loops (hr.mono (by omega)) pass0))) pss_nil)
      (pss_cons (ps_if (pt_cmpR op_eq (pv 1) (pe_glob (v := V.int 9) rfl T.i_PLAY.choose_spec ⟨_, rfl⟩) (nomark _)) (pss_one (ps_ret (call_m (pv 0) T.cl_Recording T.me_Recording_play G_Recording_play (hr.mono (by omega)) (passes_call (takes_of rfl rfl rfl rfl) (fun _ _ _ _ h => h)) (pa_cons (pv 2) pa_nil)))) pss_nil)
      (pss_one (ps_ret (call_m0 (pv 0) T.cl_Recording T.me_Recording_told G_Recording_told (hr.mono (by omega)) pass0))))))))))))), ?_⟩
  obtain ⟨dx, vs0, r1, r2, r3, r4, r5⟩ := id hR
  have hc : c = 0 ∨ c = 1 ∨ c = 2 ∨ c = 3 ∨ c = 4 ∨ c = 5 ∨ c = 6 ∨ c = 7 ∨ c = 8 ∨ c = 9 ∨ c = 10 := by
    unfold kOf at hk
    repeat' (split at hk; first | (rename_i q; omega) | skip)
    all_goals first | omega | cases hk
  rcases hc with rfl | rfl | rfl | rfl | rfl | rfl | rfl | rfl | rfl | rfl | rfl
  · cases hk
    refine ⟨_, rfl, rfl, _, rfl, if_true_of rfl ?_⟩
    exact ⟨_, rfl, a, dx, _, rfl, r1, (lk_past (by decide +kernel)).trans rfl, _, rfl, a, l, n, ds, ns, rfl, hR, hn, out⟩
  · cases hk
    refine ⟨_, rfl, rfl, _, rfl, if_false_of rfl ?_⟩
    refine ⟨_, rfl, rfl, _, rfl, if_true_of rfl ?_⟩
    exact ⟨_, rfl, a, dx, _, rfl, r1, (lk_past (by decide +kernel)).trans rfl, _, rfl, a, l, n, ds, ns, rfl, hR, hn, out⟩
  · cases hk
    refine ⟨_, rfl, rfl, _, rfl, if_false_of rfl ?_⟩
    refine ⟨_, rfl, rfl, _, rfl, if_false_of rfl ?_⟩
    refine ⟨_, rfl, rfl, _, rfl, if_true_of rfl ?_⟩
    exact ⟨_, rfl, a, dx, _, rfl, r1, (lk_past (by decide +kernel)).trans rfl, a, l, ds, rfl, hR, out⟩
  · cases hk
    refine ⟨_, rfl, rfl, _, rfl, if_false_of rfl ?_⟩
    refine ⟨_, rfl, rfl, _, rfl, if_false_of rfl ?_⟩
    refine ⟨_, rfl, rfl, _, rfl, if_false_of rfl ?_⟩
    refine ⟨_, rfl, rfl, _, rfl, if_true_of rfl ?_⟩
    exact ⟨_, rfl, a, dx, _, rfl, r1, (lk_past (by decide +kernel)).trans rfl, a, l, ds, rfl, hR, Out.calm (refusal_pos (Int.natCast_nonneg _)) out⟩
  · cases hk
    refine ⟨_, rfl, rfl, _, rfl, if_false_of rfl ?_⟩
    refine ⟨_, rfl, rfl, _, rfl, if_false_of rfl ?_⟩
    refine ⟨_, rfl, rfl, _, rfl, if_false_of rfl ?_⟩
    refine ⟨_, rfl, rfl, _, rfl, if_false_of rfl ?_⟩
    refine ⟨_, rfl, rfl, _, rfl, if_true_of rfl ?_⟩
    exact ⟨_, rfl, a, dx, _, rfl, r1, (lk_past (by decide +kernel)).trans rfl, a, l, ds, rfl, hR, Out.calm (refusal_pos (Int.natCast_nonneg _)) out⟩
  · cases hk
    refine ⟨_, rfl, rfl, _, rfl, if_false_of rfl ?_⟩
    refine ⟨_, rfl, rfl, _, rfl, if_false_of rfl ?_⟩
    refine ⟨_, rfl, rfl, _, rfl, if_false_of rfl ?_⟩
    refine ⟨_, rfl, rfl, _, rfl, if_false_of rfl ?_⟩
    refine ⟨_, rfl, rfl, _, rfl, if_false_of rfl ?_⟩
    refine ⟨_, rfl, rfl, _, rfl, if_true_of rfl ?_⟩
    exact ⟨_, rfl, a, dx, _, rfl, r1, (lk_past (by decide +kernel)).trans rfl, _, rfl, a, l, n, ds, ns, rfl, hR, hn, out⟩
  · cases hk
    refine ⟨_, rfl, rfl, _, rfl, if_false_of rfl ?_⟩
    refine ⟨_, rfl, rfl, _, rfl, if_false_of rfl ?_⟩
    refine ⟨_, rfl, rfl, _, rfl, if_false_of rfl ?_⟩
    refine ⟨_, rfl, rfl, _, rfl, if_false_of rfl ?_⟩
    refine ⟨_, rfl, rfl, _, rfl, if_false_of rfl ?_⟩
    refine ⟨_, rfl, rfl, _, rfl, if_false_of rfl ?_⟩
    refine ⟨_, rfl, rfl, _, rfl, if_true_of rfl ?_⟩
    exact ⟨_, rfl, a, dx, _, rfl, r1, (lk_past (by decide +kernel)).trans rfl, _, rfl, a, l, n, ds, ns, rfl, hR, hn, out⟩
  · cases hk
    refine ⟨_, rfl, rfl, _, rfl, if_false_of rfl ?_⟩
    refine ⟨_, rfl, rfl, _, rfl, if_false_of rfl ?_⟩
    refine ⟨_, rfl, rfl, _, rfl, if_false_of rfl ?_⟩
    refine ⟨_, rfl, rfl, _, rfl, if_false_of rfl ?_⟩
    refine ⟨_, rfl, rfl, _, rfl, if_false_of rfl ?_⟩
    refine ⟨_, rfl, rfl, _, rfl, if_false_of rfl ?_⟩
    refine ⟨_, rfl, rfl, _, rfl, if_false_of rfl ?_⟩
    refine ⟨_, rfl, rfl, _, rfl, if_true_of rfl ?_⟩
    exact ⟨_, rfl, a, dx, _, rfl, r1, (lk_past (by decide +kernel)).trans rfl, a, l, ds, rfl, hR, Out.calm (calm_next ds) out⟩
  · cases hk
    refine ⟨_, rfl, rfl, _, rfl, if_false_of rfl ?_⟩
    refine ⟨_, rfl, rfl, _, rfl, if_false_of rfl ?_⟩
    refine ⟨_, rfl, rfl, _, rfl, if_false_of rfl ?_⟩
    refine ⟨_, rfl, rfl, _, rfl, if_false_of rfl ?_⟩
    refine ⟨_, rfl, rfl, _, rfl, if_false_of rfl ?_⟩
    refine ⟨_, rfl, rfl, _, rfl, if_false_of rfl ?_⟩
    refine ⟨_, rfl, rfl, _, rfl, if_false_of rfl ?_⟩
    refine ⟨_, rfl, rfl, _, rfl, if_false_of rfl ?_⟩
    refine ⟨_, rfl, rfl, _, rfl, if_true_of rfl ?_⟩
    exact ⟨_, rfl, a, dx, _, rfl, r1, (lk_past (by decide +kernel)).trans rfl, a, l, ds, rfl, hR, Out.calm (refusal_pos (Int.natCast_nonneg _)) out⟩
  · cases hk
    refine ⟨_, rfl, rfl, _, rfl, if_false_of rfl ?_⟩
    refine ⟨_, rfl, rfl, _, rfl, if_false_of rfl ?_⟩
    refine ⟨_, rfl, rfl, _, rfl, if_false_of rfl ?_⟩
    refine ⟨_, rfl, rfl, _, rfl, if_false_of rfl ?_⟩
    refine ⟨_, rfl, rfl, _, rfl, if_false_of rfl ?_⟩
    refine ⟨_, rfl, rfl, _, rfl, if_false_of rfl ?_⟩
    refine ⟨_, rfl, rfl, _, rfl, if_false_of rfl ?_⟩
    refine ⟨_, rfl, rfl, _, rfl, if_false_of rfl ?_⟩
    refine ⟨_, rfl, rfl, _, rfl, if_false_of rfl ?_⟩
    refine ⟨_, rfl, rfl, _, rfl, if_true_of rfl ?_⟩
    exact ⟨_, rfl, a, dx, _, rfl, r1, (lk_past (by decide +kernel)).trans rfl, _, rfl, a, l, n, ds, ns, rfl, hR, hn, out⟩
  · cases hk
    refine ⟨_, rfl, rfl, _, rfl, if_false_of rfl ?_⟩
    refine ⟨_, rfl, rfl, _, rfl, if_false_of rfl ?_⟩
    refine ⟨_, rfl, rfl, _, rfl, if_false_of rfl ?_⟩
    refine ⟨_, rfl, rfl, _, rfl, if_false_of rfl ?_⟩
    refine ⟨_, rfl, rfl, _, rfl, if_false_of rfl ?_⟩
    refine ⟨_, rfl, rfl, _, rfl, if_false_of rfl ?_⟩
    refine ⟨_, rfl, rfl, _, rfl, if_false_of rfl ?_⟩
    refine ⟨_, rfl, rfl, _, rfl, if_false_of rfl ?_⟩
    refine ⟨_, rfl, rfl, _, rfl, if_false_of rfl ?_⟩
    refine ⟨_, rfl, rfl, _, rfl, if_false_of rfl ?_⟩
    exact ⟨_, rfl, a, dx, _, rfl, r1, (lk_past (by decide +kernel)).trans rfl, a, l, ds, rfl, hR, Out.calm (refusal_pos (Int.natCast_nonneg _)) out⟩
end
end Lf

set_option Elab.async false
set_option linter.all false
set_option maxRecDepth 100000
set_option maxHeartbeats 4000000
/-! # answers -/
namespace Lf
open PySem PySem.Spec PyProof.Rows L2
open VamacBase (Deed Prog)
theorem in_lists (p : Int) (h : 0 ≤ p ∧ p ≤ 10) : inV (.int p) [.int 0, .int 1, .int 5, .int 6, .int 9] = hasList p := by
  have e : p = 0 ∨ p = 1 ∨ p = 2 ∨ p = 3 ∨ p = 4 ∨ p = 5 ∨ p = 6 ∨ p = 7 ∨ p = 8 ∨ p = 9 ∨ p = 10 := by omega
  rcases e with rfl | rfl | rfl | rfl | rfl | rfl | rfl | rfl | rfl | rfl | rfl <;> decide
theorem big : 10000000 < sizeLine := by decide
/-- between two calls -/
def Midway (A : Ad) (H : Hp) (ca ra g : Addr) (ns : List Int) (n : Nat) (σ : L2.St) (H' : Hp) : Prop :=
  ∃ (l : Addr) (i : Nat) (pl : Int) (ds : List Deed) (acc : List Int) (cs : List (List (List Int))) (f : Nat) (v4 v5 v6 v7 : Option V), n = ns.length - i ∧ pl = (i : Nat) ∧ i ≤ ns.length ∧ σ = [some (.ref ca), some (.ref ra), some (.ref g), some (.int pl), v4, v5, v6, v7] ∧
    Same H H' ∧ RecAt A H' ra l ds ∧ H' g = some (.lst (acc.map V.int)) ∧ H l = none ∧ g ≠ l ∧ H g = none ∧ H ra = none ∧ PyFlat.calls PyVamacb.shape f (ns.drop i) = some cs ∧ acc ++ toldFrom ⟨ds⟩ cs = PyVamacb.answers ns
section
variable {P : Program} {w : World} {K : PySem.W.Frag} {mg : Str → Option Value} {base : Heap} {A : Ad} {fd : FuncData}
theorem ok_answers (T : Txt K mg A) (F : Fun K "answers" "answers" s_answers A.f_answers fd) : FnOk P w K mg base CX0 16 A.f_answers fd ["calls"] (spAnswers K) := by
  have G_Recording_init := ok_Recording_init (P := P) (w := w) (base := base) T
  have G_answer := ok_answer (P := P) (w := w) (base := base) T (ok_do_call T)
  refine F.ok sc_answers (fun vs H Q E h => ?_) (fun cdv AA outer s H vs Q E hr h => ?_)
  · obtain ⟨a, ns, rfl, _⟩ := h
    rfl
  obtain ⟨ca, ns, rfl, hca, hask, kQ⟩ := h
  refine ⟨_, (pss_cons (ps_set (i := 1) sc_answers.nd rfl (Or.inl rfl) (call_c0 T.mk_Recording G_Recording_init (hr.mono (by omega)) rfl T.g_Recording pass0))
      (pss_cons (ps_set (i := 2) sc_answers.nd rfl (Or.inl rfl) (pe_lst pa_nil))
      (pss_cons (ps_set (i := 3) sc_answers.nd rfl (Or.inl rfl) pe_int)
      (pss_cons (ps_while PassesOwn.never (pt_cmpR op_lt (pv 3) (pe_callB call_len_seq (by rfl) T.z_len PySem.boot_len (pa_cons (pv 0) pa_nil)) (nomark _)) (pss_cons (ps_set (i := 4) sc_answers.nd rfl (Or.inl rfl) (pe_ix ix_list (pv 0) (pv 3) (fun _ _ => rfl)))
      (pss_cons (ps_set (i := 3) sc_answers.nd rfl (Or.inl rfl) (pe_op op_add (pv 3) pe_int))
      (pss_cons (ps_set (i := 5) sc_answers.nd rfl (Or.inl rfl) (pe_lst pa_nil))
      (pss_cons (ps_if (pt_cmpR op_in_seq (pv 4) (pe_tup (pa_cons (pe_glob (v := V.int 0) rfl T.i_RECORD.choose_spec ⟨_, rfl⟩) (pa_cons (pe_glob (v := V.int 1) rfl T.i_ADD_recording.choose_spec ⟨_, rfl⟩) (pa_cons (pe_glob (v := V.int 5) rfl T.i_IS_IT.choose_spec ⟨_, rfl⟩) (pa_cons (pe_glob (v := V.int 6) rfl T.i_UNROLL.choose_spec ⟨_, rfl⟩) (pa_cons (pe_glob (v := V.int 9) rfl T.i_PLAY.choose_spec ⟨_, rfl⟩) pa_nil)))))) (by rfl)) (pss_cons (ps_set (i := 6) sc_answers.nd rfl (Or.inl rfl) (pe_op op_add (pe_op op_add (pv 3) pe_int) (pe_ix ix_list (pv 0) (pv 3) (fun _ _ => rfl))))
      (pss_cons (ps_set (i := 5) sc_answers.nd rfl (Or.inl rfl) (pe_slice sl_list (pv 0) (po_some (pe_op op_add (pv 3) pe_int)) (po_some (pv 6))))
      (pss_one (ps_set (i := 3) sc_answers.nd rfl (Or.inl rfl) (pv 6))))) pss_nil)
      (pss_cons (ps_set (i := 7) sc_answers.nd rfl (Or.inl rfl) (call_f G_answer (hr.mono (by omega)) rfl T.g_answer pass0 (pa_cons (pv 1) (pa_cons (pv 4) (pa_cons (pv 5) pa_nil)))))
      (pss_cons (ps_expr (pe_bm PySem.F.plainAttrs_list PySem.F.slot_list_append PySem.F.type_list_append mt_append (pv 2) (pa_cons (pe_callB call_len_seq (by rfl) T.z_len PySem.boot_len (pa_cons (pv 7) pa_nil)) pa_nil)))
      (pss_one (ps_expr (pe_bm PySem.F.plainAttrs_list PySem.F.slot_list_extend PySem.F.type_list_extend mt_extend (pv 2) (pa_cons (pv 7) pa_nil)))))))))))
      (pss_one (ps_ret (pv 2))))))), ?_⟩
  obtain ⟨cs0, c1, c2, c3⟩ := asked_calls hask
  -- recording = Recording()
  refine fun ra dx nx nd ne => ⟨ra, dx, rfl, upd_same, fun l0 hl0 => ⟨rfl, ?_⟩⟩
  have l0r : l0 ≠ ra := fun z => by
    rw [z, upd_same] at hl0
    cases hl0
  have nl0 : H l0 = none := by
    rw [upd_ne l0r] at hl0
    by_cases z : l0 = dx
    · rw [z]
      exact nd
    · rw [upd_ne z] at hl0
      exact hl0
  generalize hH1 : upd (upd (upd (upd H dx (.own ra)) ra (.ins A.c_Recording dx [])) l0 (.lst [])) ra (.ins A.c_Recording dx (recF l0)) = H1
  have S1 : Same H H1 := fun b o e => by
    rw [← hH1, upd_ne (ne_of_none e nx), upd_ne (ne_of_none e nl0), upd_ne (ne_of_none e nx), upd_ne (ne_of_none e nd)]
    exact e
  have R1 : RecAt A H1 ra l0 [] := ⟨dx, [], by rw [← hH1]; exact upd_same, by rw [← hH1, upd_ne l0r]; exact upd_same, .nil, Nat.zero_le _, fun d hd => nomatch hd⟩
  -- given = []
  refine ⟨(by show 0 ≤ sizeLine; decide), fun g hg => ?_⟩
  have gl0 : g ≠ l0 := fun z => by
    obtain ⟨_, _, _, r2, _⟩ := R1
    rw [z, r2] at hg
    cases hg
  have hn0g0 : H g = none := S1.free hg
  -- while
  refine ⟨Midway A H ca ra g ns, ⟨ns.length, l0, 0, 0, [], [], cs0, ns.length, none, none, none, none, rfl, rfl, Nat.zero_le _, rfl, S1.trans (same_new hg), R1.mono (same_new hg), upd_same, nl0, gl0, hn0g0, nx, c1, by rw [List.nil_append, c2]⟩, ?_⟩
  rintro n σ H' ⟨l, i, pl, ds, acc, cs, f, v4, v5, v6, v7, rfl, hpl, hi, rfl, S', hR, hg', hn0l, gl, hn0g, hn0r, hcs, etold⟩
  have hca' : SqL K H' ca (ns.map V.int) := SqL.keep hca fun o e => S' _ _ e
  refine ⟨_, rfl, _, rfl, ca, _, rfl, .inl hca', _, _, rfl, rfl, _, rfl, ?_⟩
  rw [List.length_map]
  refine if_dec (fun c => ?_) (fun c => ?_)
  · have hi' : i < ns.length := by omega
    obtain ⟨p, r, hdrop⟩ : ∃ p r, ns.drop i = p :: r := ⟨_, _, List.drop_eq_getElem_cons hi'⟩
    obtain ⟨hp, hr', _⟩ := drop_cons hdrop
    rw [hdrop] at hcs
    obtain ⟨f', ns', t, cs', k, rfl, hcs', hpin, hk, hstep, hcase⟩ := flat_cons hcs
    refine ⟨fun σ' H'' => ∃ m', m' < ns.length - i ∧ Midway A H ca ra g ns m' σ' H'', fun σ' H'' h => h, ?_⟩
    -- call = calls[place]; place = place + 1; numbers = []
    refine ⟨_, rfl, _, rfl, ca, _, _, .int p, rfl, rfl, hca', atI_ok (by omega) (by rw [hpl, Int.toNat_natCast, List.getElem?_map, hp]; rfl), ?_⟩
    refine ⟨_, rfl, _, _, rfl, rfl, ?_⟩
    refine ⟨(by show 0 ≤ sizeLine; decide), fun e0 he0 => ?_⟩
    -- if call in (..)
    refine ⟨_, rfl, (by show 5 ≤ sizeLine; decide), fun u hu => ⟨_, _, rfl, .inr (SqT.of upd_same), rfl, rfl, _, rfl, ?_⟩⟩
    have s2 : Same H' (upd (upd H' e0 (.lst [])) u (.tup [.int 0, .int 1, .int 5, .int 6, .int 9])) := (same_new he0).trans (same_new hu)
    have hin : (if false = true then !inV (.int p) [.int 0, .int 1, .int 5, .int 6, .int 9] else inV (.int p) [.int 0, .int 1, .int 5, .int 6, .int 9]) = hasList p := in_lists p hpin
    rcases hcase with ⟨hl, n, r', rfl, n0, n1, rfl, rfl⟩ | ⟨hl, rfl, rfl⟩
    · refine if_true_of (hin.trans hl) ?_
      obtain ⟨hp2, hr2, hi2⟩ := drop_cons hr'.symm
      have hrl : r'.length = ns.length - (i + 2) := by
        rw [hr2, List.length_drop]
      have hca2 : SqL K (upd (upd H' e0 (.lst [])) u (.tup [.int 0, .int 1, .int 5, .int 6, .int 9])) ca (ns.map V.int) := SqL.keep hca' fun o e => s2 _ _ e
      -- end = place + 1 + calls[place]
      refine ⟨_, rfl, _, _, rfl, rfl, _, rfl, _, rfl, ca, _, _, .int n, rfl, rfl, hca2, atI_ok (by omega) (by rw [show (pl + 1).toNat = i + 1 by omega, List.getElem?_map, hp2]; rfl), _, _, rfl, rfl, ?_⟩
      -- numbers = calls[place + 1:end]
      refine ⟨_, rfl, _, rfl, _, _, rfl, rfl, _, rfl, _, rfl, _, rfl, ca, _, rfl, hca2, fun nb hnb => ?_⟩
      rw [cut_nat (ns.map V.int) (a := i + 2) (w := n.toNat) (by omega) (by omega) (by rw [List.length_map]; omega)]
      have ecut : ((ns.map V.int).drop (i + 2)).take n.toNat = (r'.take n.toNat).map V.int := by
        rw [← List.map_drop, ← List.map_take, hr2]
      rw [ecut]
      -- place = end
      refine ⟨_, rfl, ?_⟩
      have s3 := s2.trans (same_new (o := .lst ((r'.take n.toNat).map V.int)) hnb)
      have S2 := S'.trans s3
      have hR2 := hR.mono s3
      obtain ⟨dxr, vsr, hins2, _⟩ := id hR2
      have hg2 := s3 _ _ hg'
      have hnb2 : upd (upd (upd H' e0 (.lst [])) u (.tup [.int 0, .int 1, .int 5, .int 6, .int 9])) nb (.lst ((r'.take n.toNat).map V.int)) nb = some (.lst ((r'.take n.toNat).map V.int)) := upd_same
      generalize upd (upd (upd H' e0 (.lst [])) u (.tup [.int 0, .int 1, .int 5, .int 6, .int 9])) nb (.lst ((r'.take n.toNat).map V.int)) = H2 at s3 S2 hR2 hins2 hg2 hnb2 ⊢
      generalize hns' : r'.take n.toNat = ns' at hk hstep hnb2 etold
      have gra : g ≠ ra := ne_of hg2 hins2 (by intro z; cases z)
      refine ⟨_, rfl, _, rfl, _, rfl, ra, l, nb, p, ds, ns', k, rfl, hk, hR2, hnb2, fun H3 q af nq hq => ?_⟩
      have hg3 := af.keep g _ hg2 gra gl
      have qg : q ≠ g := fun z => by
        rw [z, hg2] at nq
        cases nq
      have bnd : acc.length + 1 + (Vamacb.step ⟨ds⟩ k).2.length ≤ 10000000 := by
        rw [told_cons hstep] at etold
        have := congrArg List.length etold
        rw [List.length_append, List.length_append, List.length_cons] at this
        omega
      refine ⟨_, rfl, .inl ⟨rfl, _, SqL.of hg3⟩, _, rfl, q, _, rfl, .inl (SqL.of hq), g, _, _, rfl, rfl, hg3, Nat.lt_of_le_of_lt (by rw [List.length_map]; omega) big, ?_⟩
      refine ⟨_, rfl, .inl ⟨rfl, _, SqL.of upd_same⟩, _, rfl, g, q, _, _, rfl, rfl, upd_same, by rw [upd_ne qg]; exact hq, Nat.le_of_lt (Nat.lt_of_le_of_lt (by rw [List.length_append, List.length_map, List.length_map]; simp only [List.length_cons, List.length_nil]; omega) big), ?_⟩
      rw [upd_upd]
      obtain ⟨l', hR3, hl'⟩ := af.rec_
      have hl'g : l' ≠ g := by
        rcases hl' with z | z
        · rw [z]
          exact fun y => gl y.symm
        · intro y
          rw [y, hg2] at z
          cases z
      have sG : ∀ b o, H3 b = some o → b ≠ g → upd H3 g (.lst ((acc.map V.int ++ [.int ((((Vamacb.step ⟨ds⟩ k).2.map V.int)).length : Int)]) ++ (Vamacb.step ⟨ds⟩ k).2.map V.int)) b = some o := fun b o e n => by
        rw [upd_ne n]
        exact e
      obtain ⟨dx3, vs3, q1, q2, q3, q4, q5⟩ := id hR3
      refine ⟨ns.length - (i + 2 + n.toNat), by omega, l', (i + 2 + n.toNat), _, (Vamacb.step ⟨ds⟩ k).1.deeds, acc ++ ((((Vamacb.step ⟨ds⟩ k).2.length : Nat) : Int) :: (Vamacb.step ⟨ds⟩ k).2), cs', f', _, _, _, _, rfl, by omega, by omega, rfl, ?_, ⟨dx3, vs3, sG _ _ q1 (fun y => gra y.symm), sG _ _ q2 hl'g, deeds_upd hg3 (fun xs z => by cases z) q3, q4, q5⟩, ?_, ?_, fun y => hl'g y.symm, hn0g, hn0r, ?_, ?_⟩
      · exact fun b o e => sG _ _ (af.keep b o (S2 b o e) (fun y => by rw [y, hn0r] at e; cases e) (fun y => by rw [y, hn0l] at e; cases e)) (fun y => by rw [y, hn0g] at e; cases e)
      · rw [upd_same]
        simp
      · rcases hl' with z | z
        · rw [z]
          exact hn0l
        · cases y : H l' with
          | none => rfl
          | some o =>
            rw [S2 _ _ y] at z
            cases z
      · rw [← List.drop_drop, ← hr2]
        exact hcs'
      · rw [told_cons hstep] at etold
        rw [← etold, List.append_assoc]
    · refine if_false_of (hin.trans hl) ?_
      have S2 := S'.trans s2
      have hR2 := hR.mono s2
      obtain ⟨dxr, vsr, hins2, _⟩ := id hR2
      have hg2 := s2 _ _ hg'
      have hnb2 : upd (upd H' e0 (.lst [])) u (.tup [.int 0, .int 1, .int 5, .int 6, .int 9]) e0 = some (.lst (([] : List Int).map V.int)) := by
        rw [upd_ne (ne_of_none upd_same hu)]
        exact upd_same
      generalize upd (upd H' e0 (.lst [])) u (.tup [.int 0, .int 1, .int 5, .int 6, .int 9]) = H2 at s2 S2 hR2 hins2 hg2 hnb2 ⊢
      generalize e0 = nb at hnb2 ⊢
      generalize hns' : ([] : List Int) = ns' at hk hstep hnb2 etold
      have gra : g ≠ ra := ne_of hg2 hins2 (by intro z; cases z)
      refine ⟨_, rfl, _, rfl, _, rfl, ra, l, nb, p, ds, ns', k, rfl, hk, hR2, hnb2, fun H3 q af nq hq => ?_⟩
      have hg3 := af.keep g _ hg2 gra gl
      have qg : q ≠ g := fun z => by
        rw [z, hg2] at nq
        cases nq
      have bnd : acc.length + 1 + (Vamacb.step ⟨ds⟩ k).2.length ≤ 10000000 := by
        rw [told_cons hstep] at etold
        have := congrArg List.length etold
        rw [List.length_append, List.length_append, List.length_cons] at this
        omega
      refine ⟨_, rfl, .inl ⟨rfl, _, SqL.of hg3⟩, _, rfl, q, _, rfl, .inl (SqL.of hq), g, _, _, rfl, rfl, hg3, Nat.lt_of_le_of_lt (by rw [List.length_map]; omega) big, ?_⟩
      refine ⟨_, rfl, .inl ⟨rfl, _, SqL.of upd_same⟩, _, rfl, g, q, _, _, rfl, rfl, upd_same, by rw [upd_ne qg]; exact hq, Nat.le_of_lt (Nat.lt_of_le_of_lt (by rw [List.length_append, List.length_map, List.length_map]; simp only [List.length_cons, List.length_nil]; omega) big), ?_⟩
      rw [upd_upd]
      obtain ⟨l', hR3, hl'⟩ := af.rec_
      have hl'g : l' ≠ g := by
        rcases hl' with z | z
        · rw [z]
          exact fun y => gl y.symm
        · intro y
          rw [y, hg2] at z
          cases z
      have sG : ∀ b o, H3 b = some o → b ≠ g → upd H3 g (.lst ((acc.map V.int ++ [.int ((((Vamacb.step ⟨ds⟩ k).2.map V.int)).length : Int)]) ++ (Vamacb.step ⟨ds⟩ k).2.map V.int)) b = some o := fun b o e n => by
        rw [upd_ne n]
        exact e
      obtain ⟨dx3, vs3, q1, q2, q3, q4, q5⟩ := id hR3
      refine ⟨ns.length - (i + 1), by omega, l', (i + 1), _, (Vamacb.step ⟨ds⟩ k).1.deeds, acc ++ ((((Vamacb.step ⟨ds⟩ k).2.length : Nat) : Int) :: (Vamacb.step ⟨ds⟩ k).2), cs', f', _, _, _, _, rfl, by omega, by omega, rfl, ?_, ⟨dx3, vs3, sG _ _ q1 (fun y => gra y.symm), sG _ _ q2 hl'g, deeds_upd hg3 (fun xs z => by cases z) q3, q4, q5⟩, ?_, ?_, fun y => hl'g y.symm, hn0g, hn0r, ?_, ?_⟩
      · exact fun b o e => sG _ _ (af.keep b o (S2 b o e) (fun y => by rw [y, hn0r] at e; cases e) (fun y => by rw [y, hn0l] at e; cases e)) (fun y => by rw [y, hn0g] at e; cases e)
      · rw [upd_same]
        simp
      · rcases hl' with z | z
        · rw [z]
          exact hn0l
        · cases y : H l' with
          | none => rfl
          | some o =>
            rw [S2 _ _ y] at z
            cases z
      · rw [← hr']
        exact hcs'
      · rw [told_cons hstep] at etold
        rw [← etold, List.append_assoc]
  · refine ⟨_, rfl, kQ H' g ?_⟩
    have ei : i = ns.length := by omega
    rw [ei, List.drop_length] at hcs
    have ecs : cs = [] := by
      cases f with
      | zero =>
        unfold PyFlat.calls at hcs
        simp at hcs
        first | exact hcs.symm | exact hcs
      | succ f =>
        unfold PyFlat.calls at hcs
        simp at hcs
        first | exact hcs.symm | exact hcs
    rw [ecs, told_nil, List.append_nil] at etold
    rw [← etold]
    exact hg'
end
end Lf

set_option Elab.async false
set_option linter.all false
set_option maxRecDepth 100000
set_option maxHeartbeats 8000000
/-! # The end -/
namespace Lf
open PySem PySem.Spec PyProof.Rows L2
theorem exm_pair {K : PySem.W.Frag} {E S : Addr} {b : Bool} (h1 : PySem.W.subIn K (.ref S) (.type "BaseException") = some true) (h2 : PySem.W.isClsIn K S = true) (h3 : PySem.W.typeIn K (.ref S) = some (.type "type")) (h4 : PySem.W.subIn K (.ref E) (.ref S) = some b) :
    PySem.W.exmOne K (.ref E) (.ref S) = some b := by
  have e1 : (PySem.W.subIn K (.ref S) (.type "BaseException") == some true) = true := by rw [h1] <;> rfl
  have e2 : ((PySem.W.clsIn K S).isSome && PySem.W.typeIn K (.ref S) == some (.type "type")) = true := by
    have h2' : (PySem.W.clsIn K S).isSome = true := h2
    rw [h2', h3] <;> rfl
  show (if (PySem.W.subIn K (.ref S) (.type "BaseException") == some true) = true then (if ((PySem.W.clsIn K S).isSome && PySem.W.typeIn K (.ref S) == some (.type "type")) = true then PySem.W.subIn K (.ref E) (.ref S) else none) else none) = some b
  rw [if_pos e1, if_pos e2]
  exact h4
theorem all_txt {K : PySem.W.Frag} {h : Heap} {mg : Str → Option Value} {c_NotWhole c_NoDeeds c_NotOnlyRounds c_FullRecording c_TellsTooMuch c_Reader c_DeedPiece c_LoopPiece c_TableBoundPiece c_Stretch c_Folded c_Guess c_Table c_Recording f_Reader_init f_Reader_take f_Reader_finish f_has_number f_number_of f_deed_at_round f_step_between f_read_deed f_whole_deed f_whole_deeds f_deeds_as_numbers f_DeedPiece_init f_LoopPiece_init f_TableBoundPiece_init f_read_piece f_read_row f_count_pieces f_whole_program f_is_table_bound f_tell f_count_told f_told_by f_row_as_numbers f_Stretch_init f_Folded_init f_fold f_fold_stretch f_fold_left f_deed_choices f_loop_choices f_is_same_each_round f_most_rounds f_plain_loops f_Guess_init f_goes_along f_tail_of f_does_count f_deed_behind f_guess_next f_Table_init f_read_value f_whole_table f_table_as_numbers f_found_below f_new_value f_fault_of f_do_deed f_run_deeds f_Recording_init f_Recording_record f_Recording_add f_Recording_drop f_Recording_count f_Recording_least f_Recording_is_it f_Recording_unroll f_Recording_next_one f_Recording_loops f_Recording_play f_Recording_told f_compare f_do_call f_answer f_answers t_KINDS_WITH_FIELD t_KINDS_WITH_NUMBER : Addr} (X : K.In h) (G : h.Ns mainGlobals mg)
    {od_Reader_init an_Reader_init : Option Addr} {sl_Reader_init : Array (Option Value)} {oc_Reader_init kV_Reader_init dc_Reader_init pm_Reader_init cd_Reader_init ct_Reader_init : Value}
    {od_Reader_take an_Reader_take : Option Addr} {sl_Reader_take : Array (Option Value)} {oc_Reader_take kV_Reader_take dc_Reader_take pm_Reader_take cd_Reader_take ct_Reader_take : Value}
    {od_Reader_finish an_Reader_finish : Option Addr} {sl_Reader_finish : Array (Option Value)} {oc_Reader_finish kV_Reader_finish dc_Reader_finish pm_Reader_finish cd_Reader_finish ct_Reader_finish : Value}
    {od_DeedPiece_init an_DeedPiece_init : Option Addr} {sl_DeedPiece_init : Array (Option Value)} {oc_DeedPiece_init kV_DeedPiece_init dc_DeedPiece_init pm_DeedPiece_init cd_DeedPiece_init ct_DeedPiece_init : Value}
    {od_LoopPiece_init an_LoopPiece_init : Option Addr} {sl_LoopPiece_init : Array (Option Value)} {oc_LoopPiece_init kV_LoopPiece_init dc_LoopPiece_init pm_LoopPiece_init cd_LoopPiece_init ct_LoopPiece_init : Value}
    {od_TableBoundPiece_init an_TableBoundPiece_init : Option Addr} {sl_TableBoundPiece_init : Array (Option Value)} {oc_TableBoundPiece_init kV_TableBoundPiece_init dc_TableBoundPiece_init pm_TableBoundPiece_init cd_TableBoundPiece_init ct_TableBoundPiece_init : Value}
    {od_Stretch_init an_Stretch_init : Option Addr} {sl_Stretch_init : Array (Option Value)} {oc_Stretch_init kV_Stretch_init dc_Stretch_init pm_Stretch_init cd_Stretch_init ct_Stretch_init : Value}
    {od_Folded_init an_Folded_init : Option Addr} {sl_Folded_init : Array (Option Value)} {oc_Folded_init kV_Folded_init dc_Folded_init pm_Folded_init cd_Folded_init ct_Folded_init : Value}
    {od_Guess_init an_Guess_init : Option Addr} {sl_Guess_init : Array (Option Value)} {oc_Guess_init kV_Guess_init dc_Guess_init pm_Guess_init cd_Guess_init ct_Guess_init : Value}
    {od_Table_init an_Table_init : Option Addr} {sl_Table_init : Array (Option Value)} {oc_Table_init kV_Table_init dc_Table_init pm_Table_init cd_Table_init ct_Table_init : Value}
    {od_Recording_init an_Recording_init : Option Addr} {sl_Recording_init : Array (Option Value)} {oc_Recording_init kV_Recording_init dc_Recording_init pm_Recording_init cd_Recording_init ct_Recording_init : Value}
    {od_Recording_record an_Recording_record : Option Addr} {sl_Recording_record : Array (Option Value)} {oc_Recording_record kV_Recording_record dc_Recording_record pm_Recording_record cd_Recording_record ct_Recording_record : Value}
    {od_Recording_add an_Recording_add : Option Addr} {sl_Recording_add : Array (Option Value)} {oc_Recording_add kV_Recording_add dc_Recording_add pm_Recording_add cd_Recording_add ct_Recording_add : Value}
    {od_Recording_drop an_Recording_drop : Option Addr} {sl_Recording_drop : Array (Option Value)} {oc_Recording_drop kV_Recording_drop dc_Recording_drop pm_Recording_drop cd_Recording_drop ct_Recording_drop : Value}
    {od_Recording_count an_Recording_count : Option Addr} {sl_Recording_count : Array (Option Value)} {oc_Recording_count kV_Recording_count dc_Recording_count pm_Recording_count cd_Recording_count ct_Recording_count : Value}
    {od_Recording_least an_Recording_least : Option Addr} {sl_Recording_least : Array (Option Value)} {oc_Recording_least kV_Recording_least dc_Recording_least pm_Recording_least cd_Recording_least ct_Recording_least : Value}
    {od_Recording_is_it an_Recording_is_it : Option Addr} {sl_Recording_is_it : Array (Option Value)} {oc_Recording_is_it kV_Recording_is_it dc_Recording_is_it pm_Recording_is_it cd_Recording_is_it ct_Recording_is_it : Value}
    {od_Recording_unroll an_Recording_unroll : Option Addr} {sl_Recording_unroll : Array (Option Value)} {oc_Recording_unroll kV_Recording_unroll dc_Recording_unroll pm_Recording_unroll cd_Recording_unroll ct_Recording_unroll : Value}
    {od_Recording_next_one an_Recording_next_one : Option Addr} {sl_Recording_next_one : Array (Option Value)} {oc_Recording_next_one kV_Recording_next_one dc_Recording_next_one pm_Recording_next_one cd_Recording_next_one ct_Recording_next_one : Value}
    {od_Recording_loops an_Recording_loops : Option Addr} {sl_Recording_loops : Array (Option Value)} {oc_Recording_loops kV_Recording_loops dc_Recording_loops pm_Recording_loops cd_Recording_loops ct_Recording_loops : Value}
    {od_Recording_play an_Recording_play : Option Addr} {sl_Recording_play : Array (Option Value)} {oc_Recording_play kV_Recording_play dc_Recording_play pm_Recording_play cd_Recording_play ct_Recording_play : Value}
    {od_Recording_told an_Recording_told : Option Addr} {sl_Recording_told : Array (Option Value)} {oc_Recording_told kV_Recording_told dc_Recording_told pm_Recording_told cd_Recording_told ct_Recording_told : Value}
    {od_has_number an_has_number : Option Addr} {sl_has_number : Array (Option Value)} {oc_has_number kV_has_number dc_has_number pm_has_number cd_has_number ct_has_number : Value}
    {od_number_of an_number_of : Option Addr} {sl_number_of : Array (Option Value)} {oc_number_of kV_number_of dc_number_of pm_number_of cd_number_of ct_number_of : Value}
    {od_deed_at_round an_deed_at_round : Option Addr} {sl_deed_at_round : Array (Option Value)} {oc_deed_at_round kV_deed_at_round dc_deed_at_round pm_deed_at_round cd_deed_at_round ct_deed_at_round : Value}
    {od_step_between an_step_between : Option Addr} {sl_step_between : Array (Option Value)} {oc_step_between kV_step_between dc_step_between pm_step_between cd_step_between ct_step_between : Value}
    {od_read_deed an_read_deed : Option Addr} {sl_read_deed : Array (Option Value)} {oc_read_deed kV_read_deed dc_read_deed pm_read_deed cd_read_deed ct_read_deed : Value}
    {od_whole_deed an_whole_deed : Option Addr} {sl_whole_deed : Array (Option Value)} {oc_whole_deed kV_whole_deed dc_whole_deed pm_whole_deed cd_whole_deed ct_whole_deed : Value}
    {od_whole_deeds an_whole_deeds : Option Addr} {sl_whole_deeds : Array (Option Value)} {oc_whole_deeds kV_whole_deeds dc_whole_deeds pm_whole_deeds cd_whole_deeds ct_whole_deeds : Value}
    {od_deeds_as_numbers an_deeds_as_numbers : Option Addr} {sl_deeds_as_numbers : Array (Option Value)} {oc_deeds_as_numbers kV_deeds_as_numbers dc_deeds_as_numbers pm_deeds_as_numbers cd_deeds_as_numbers ct_deeds_as_numbers : Value}
    {od_read_piece an_read_piece : Option Addr} {sl_read_piece : Array (Option Value)} {oc_read_piece kV_read_piece dc_read_piece pm_read_piece cd_read_piece ct_read_piece : Value}
    {od_read_row an_read_row : Option Addr} {sl_read_row : Array (Option Value)} {oc_read_row kV_read_row dc_read_row pm_read_row cd_read_row ct_read_row : Value}
    {od_count_pieces an_count_pieces : Option Addr} {sl_count_pieces : Array (Option Value)} {oc_count_pieces kV_count_pieces dc_count_pieces pm_count_pieces cd_count_pieces ct_count_pieces : Value}
    {od_whole_program an_whole_program : Option Addr} {sl_whole_program : Array (Option Value)} {oc_whole_program kV_whole_program dc_whole_program pm_whole_program cd_whole_program ct_whole_program : Value}
    {od_is_table_bound an_is_table_bound : Option Addr} {sl_is_table_bound : Array (Option Value)} {oc_is_table_bound kV_is_table_bound dc_is_table_bound pm_is_table_bound cd_is_table_bound ct_is_table_bound : Value}
    {od_tell an_tell : Option Addr} {sl_tell : Array (Option Value)} {oc_tell kV_tell dc_tell pm_tell cd_tell ct_tell : Value}
    {od_count_told an_count_told : Option Addr} {sl_count_told : Array (Option Value)} {oc_count_told kV_count_told dc_count_told pm_count_told cd_count_told ct_count_told : Value}
    {od_told_by an_told_by : Option Addr} {sl_told_by : Array (Option Value)} {oc_told_by kV_told_by dc_told_by pm_told_by cd_told_by ct_told_by : Value}
    {od_row_as_numbers an_row_as_numbers : Option Addr} {sl_row_as_numbers : Array (Option Value)} {oc_row_as_numbers kV_row_as_numbers dc_row_as_numbers pm_row_as_numbers cd_row_as_numbers ct_row_as_numbers : Value}
    {od_fold an_fold : Option Addr} {sl_fold : Array (Option Value)} {oc_fold kV_fold dc_fold pm_fold cd_fold ct_fold : Value}
    {od_fold_stretch an_fold_stretch : Option Addr} {sl_fold_stretch : Array (Option Value)} {oc_fold_stretch kV_fold_stretch dc_fold_stretch pm_fold_stretch cd_fold_stretch ct_fold_stretch : Value}
    {od_fold_left an_fold_left : Option Addr} {sl_fold_left : Array (Option Value)} {oc_fold_left kV_fold_left dc_fold_left pm_fold_left cd_fold_left ct_fold_left : Value}
    {od_deed_choices an_deed_choices : Option Addr} {sl_deed_choices : Array (Option Value)} {oc_deed_choices kV_deed_choices dc_deed_choices pm_deed_choices cd_deed_choices ct_deed_choices : Value}
    {od_loop_choices an_loop_choices : Option Addr} {sl_loop_choices : Array (Option Value)} {oc_loop_choices kV_loop_choices dc_loop_choices pm_loop_choices cd_loop_choices ct_loop_choices : Value}
    {od_is_same_each_round an_is_same_each_round : Option Addr} {sl_is_same_each_round : Array (Option Value)} {oc_is_same_each_round kV_is_same_each_round dc_is_same_each_round pm_is_same_each_round cd_is_same_each_round ct_is_same_each_round : Value}
    {od_most_rounds an_most_rounds : Option Addr} {sl_most_rounds : Array (Option Value)} {oc_most_rounds kV_most_rounds dc_most_rounds pm_most_rounds cd_most_rounds ct_most_rounds : Value}
    {od_plain_loops an_plain_loops : Option Addr} {sl_plain_loops : Array (Option Value)} {oc_plain_loops kV_plain_loops dc_plain_loops pm_plain_loops cd_plain_loops ct_plain_loops : Value}
    {od_goes_along an_goes_along : Option Addr} {sl_goes_along : Array (Option Value)} {oc_goes_along kV_goes_along dc_goes_along pm_goes_along cd_goes_along ct_goes_along : Value}
    {od_tail_of an_tail_of : Option Addr} {sl_tail_of : Array (Option Value)} {oc_tail_of kV_tail_of dc_tail_of pm_tail_of cd_tail_of ct_tail_of : Value}
    {od_does_count an_does_count : Option Addr} {sl_does_count : Array (Option Value)} {oc_does_count kV_does_count dc_does_count pm_does_count cd_does_count ct_does_count : Value}
    {od_deed_behind an_deed_behind : Option Addr} {sl_deed_behind : Array (Option Value)} {oc_deed_behind kV_deed_behind dc_deed_behind pm_deed_behind cd_deed_behind ct_deed_behind : Value}
    {od_guess_next an_guess_next : Option Addr} {sl_guess_next : Array (Option Value)} {oc_guess_next kV_guess_next dc_guess_next pm_guess_next cd_guess_next ct_guess_next : Value}
    {od_read_value an_read_value : Option Addr} {sl_read_value : Array (Option Value)} {oc_read_value kV_read_value dc_read_value pm_read_value cd_read_value ct_read_value : Value}
    {od_whole_table an_whole_table : Option Addr} {sl_whole_table : Array (Option Value)} {oc_whole_table kV_whole_table dc_whole_table pm_whole_table cd_whole_table ct_whole_table : Value}
    {od_table_as_numbers an_table_as_numbers : Option Addr} {sl_table_as_numbers : Array (Option Value)} {oc_table_as_numbers kV_table_as_numbers dc_table_as_numbers pm_table_as_numbers cd_table_as_numbers ct_table_as_numbers : Value}
    {od_found_below an_found_below : Option Addr} {sl_found_below : Array (Option Value)} {oc_found_below kV_found_below dc_found_below pm_found_below cd_found_below ct_found_below : Value}
    {od_new_value an_new_value : Option Addr} {sl_new_value : Array (Option Value)} {oc_new_value kV_new_value dc_new_value pm_new_value cd_new_value ct_new_value : Value}
    {od_fault_of an_fault_of : Option Addr} {sl_fault_of : Array (Option Value)} {oc_fault_of kV_fault_of dc_fault_of pm_fault_of cd_fault_of ct_fault_of : Value}
    {od_do_deed an_do_deed : Option Addr} {sl_do_deed : Array (Option Value)} {oc_do_deed kV_do_deed dc_do_deed pm_do_deed cd_do_deed ct_do_deed : Value}
    {od_run_deeds an_run_deeds : Option Addr} {sl_run_deeds : Array (Option Value)} {oc_run_deeds kV_run_deeds dc_run_deeds pm_run_deeds cd_run_deeds ct_run_deeds : Value}
    {od_compare an_compare : Option Addr} {sl_compare : Array (Option Value)} {oc_compare kV_compare dc_compare pm_compare cd_compare ct_compare : Value}
    {od_do_call an_do_call : Option Addr} {sl_do_call : Array (Option Value)} {oc_do_call kV_do_call dc_do_call pm_do_call cd_do_call ct_do_call : Value}
    {od_answer an_answer : Option Addr} {sl_answer : Array (Option Value)} {oc_answer kV_answer dc_answer pm_answer cd_answer ct_answer : Value}
    {od_answers an_answers : Option Addr} {sl_answers : Array (Option Value)} {oc_answers kV_answers dc_answers pm_answers cd_answers ct_answers : Value}
    {tk_DOWN : Tok}
    {tk_UP : Tok}
    {tk_TOP : Tok}
    {tk_WRITE : Tok}
    {tk_ADD_deeds : Tok}
    {tk_COPY : Tok}
    {tk_PASTE : Tok}
    {tk_DELETE : Tok}
    {tk_DOUBLE : Tok}
    {tk_FIND : Tok}
    {tk_KINDS_WITH_FIELD_0 tk_KINDS_WITH_FIELD_1 tk_KINDS_WITH_FIELD_2 tk_KINDS_WITH_FIELD_3 tk_KINDS_WITH_FIELD_4 : Tok} {dd_KINDS_WITH_FIELD : Option Addr} {nn_KINDS_WITH_FIELD : Nat} {sl_KINDS_WITH_FIELD : Array (Option Value)}
    {tk_KINDS_WITH_NUMBER_0 tk_KINDS_WITH_NUMBER_1 tk_KINDS_WITH_NUMBER_2 : Tok} {dd_KINDS_WITH_NUMBER : Option Addr} {nn_KINDS_WITH_NUMBER : Nat} {sl_KINDS_WITH_NUMBER : Array (Option Value)}
    {tk_LAST_FIELD : Tok}
    {tk_MOST_NUMBER : Tok}
    {tk_MOST_DEEDS : Tok}
    {tk_DEED : Tok}
    {tk_LOOP : Tok}
    {tk_PART : Tok}
    {tk_MOST_ROUNDS : Tok}
    {tk_MOST_PIECES : Tok}
    {tk_MOST_DEEP : Tok}
    {tk_MOST_TOLD : Tok}
    {tk_MOST_LOOPS_DEEP : Tok}
    {tk_MOST_ROWS : Tok}
    {tk_WELL : Tok}
    {tk_NO_ROW_HERE : Tok}
    {tk_AT_ROW_0 : Tok}
    {tk_BEYOND_999 : Tok}
    {tk_ROWS_FULL : Tok}
    {tk_NONE_FOUND : Tok}
    {tk_RECORD : Tok}
    {tk_ADD_recording : Tok}
    {tk_DROP : Tok}
    {tk_COUNT : Tok}
    {tk_LEAST : Tok}
    {tk_IS_IT : Tok}
    {tk_UNROLL : Tok}
    {tk_NEXT_ONE : Tok}
    {tk_LOOPS : Tok}
    {tk_PLAY : Tok}
    (a_NotWhole : PySem.W.nsIn K mainGlobals "NotWhole" = some (some (.ref c_NotWhole)))
    (x_NotWhole : PySem.W.excIn K c_NotWhole [.type "Exception", .type "BaseException", .type "object"] "Exception.__new__" = true)
    (k_NotWhole : PySem.W.keepIn K (.ref c_NotWhole) = true)
    (b_NotWhole : PySem.W.subIn K (.ref c_NotWhole) (.type "BaseException") = some true)
    (t_NotWhole : PySem.W.typeIn K (.ref c_NotWhole) = some (.type "type"))
    (i_NotWhole : PySem.W.isClsIn K c_NotWhole = true)
    (a_NoDeeds : PySem.W.nsIn K mainGlobals "NoDeeds" = some (some (.ref c_NoDeeds)))
    (x_NoDeeds : PySem.W.excIn K c_NoDeeds [.type "Exception", .type "BaseException", .type "object"] "Exception.__new__" = true)
    (k_NoDeeds : PySem.W.keepIn K (.ref c_NoDeeds) = true)
    (b_NoDeeds : PySem.W.subIn K (.ref c_NoDeeds) (.type "BaseException") = some true)
    (t_NoDeeds : PySem.W.typeIn K (.ref c_NoDeeds) = some (.type "type"))
    (i_NoDeeds : PySem.W.isClsIn K c_NoDeeds = true)
    (a_NotOnlyRounds : PySem.W.nsIn K mainGlobals "NotOnlyRounds" = some (some (.ref c_NotOnlyRounds)))
    (x_NotOnlyRounds : PySem.W.excIn K c_NotOnlyRounds [.type "Exception", .type "BaseException", .type "object"] "Exception.__new__" = true)
    (k_NotOnlyRounds : PySem.W.keepIn K (.ref c_NotOnlyRounds) = true)
    (b_NotOnlyRounds : PySem.W.subIn K (.ref c_NotOnlyRounds) (.type "BaseException") = some true)
    (t_NotOnlyRounds : PySem.W.typeIn K (.ref c_NotOnlyRounds) = some (.type "type"))
    (i_NotOnlyRounds : PySem.W.isClsIn K c_NotOnlyRounds = true)
    (a_FullRecording : PySem.W.nsIn K mainGlobals "FullRecording" = some (some (.ref c_FullRecording)))
    (x_FullRecording : PySem.W.excIn K c_FullRecording [.type "Exception", .type "BaseException", .type "object"] "Exception.__new__" = true)
    (k_FullRecording : PySem.W.keepIn K (.ref c_FullRecording) = true)
    (b_FullRecording : PySem.W.subIn K (.ref c_FullRecording) (.type "BaseException") = some true)
    (t_FullRecording : PySem.W.typeIn K (.ref c_FullRecording) = some (.type "type"))
    (i_FullRecording : PySem.W.isClsIn K c_FullRecording = true)
    (a_TellsTooMuch : PySem.W.nsIn K mainGlobals "TellsTooMuch" = some (some (.ref c_TellsTooMuch)))
    (x_TellsTooMuch : PySem.W.excIn K c_TellsTooMuch [.type "Exception", .type "BaseException", .type "object"] "Exception.__new__" = true)
    (k_TellsTooMuch : PySem.W.keepIn K (.ref c_TellsTooMuch) = true)
    (b_TellsTooMuch : PySem.W.subIn K (.ref c_TellsTooMuch) (.type "BaseException") = some true)
    (t_TellsTooMuch : PySem.W.typeIn K (.ref c_TellsTooMuch) = some (.type "type"))
    (i_TellsTooMuch : PySem.W.isClsIn K c_TellsTooMuch = true)
    (s_NotWhole_NotWhole : PySem.W.subIn K (.ref c_NotWhole) (.ref c_NotWhole) = some true)
    (s_NotWhole_NoDeeds : PySem.W.subIn K (.ref c_NotWhole) (.ref c_NoDeeds) = some false)
    (s_NotWhole_NotOnlyRounds : PySem.W.subIn K (.ref c_NotWhole) (.ref c_NotOnlyRounds) = some false)
    (s_NotWhole_FullRecording : PySem.W.subIn K (.ref c_NotWhole) (.ref c_FullRecording) = some false)
    (s_NotWhole_TellsTooMuch : PySem.W.subIn K (.ref c_NotWhole) (.ref c_TellsTooMuch) = some false)
    (s_NoDeeds_NotWhole : PySem.W.subIn K (.ref c_NoDeeds) (.ref c_NotWhole) = some false)
    (s_NoDeeds_NoDeeds : PySem.W.subIn K (.ref c_NoDeeds) (.ref c_NoDeeds) = some true)
    (s_NoDeeds_NotOnlyRounds : PySem.W.subIn K (.ref c_NoDeeds) (.ref c_NotOnlyRounds) = some false)
    (s_NoDeeds_FullRecording : PySem.W.subIn K (.ref c_NoDeeds) (.ref c_FullRecording) = some false)
    (s_NoDeeds_TellsTooMuch : PySem.W.subIn K (.ref c_NoDeeds) (.ref c_TellsTooMuch) = some false)
    (s_NotOnlyRounds_NotWhole : PySem.W.subIn K (.ref c_NotOnlyRounds) (.ref c_NotWhole) = some false)
    (s_NotOnlyRounds_NoDeeds : PySem.W.subIn K (.ref c_NotOnlyRounds) (.ref c_NoDeeds) = some false)
    (s_NotOnlyRounds_NotOnlyRounds : PySem.W.subIn K (.ref c_NotOnlyRounds) (.ref c_NotOnlyRounds) = some true)
    (s_NotOnlyRounds_FullRecording : PySem.W.subIn K (.ref c_NotOnlyRounds) (.ref c_FullRecording) = some false)
    (s_NotOnlyRounds_TellsTooMuch : PySem.W.subIn K (.ref c_NotOnlyRounds) (.ref c_TellsTooMuch) = some false)
    (s_FullRecording_NotWhole : PySem.W.subIn K (.ref c_FullRecording) (.ref c_NotWhole) = some false)
    (s_FullRecording_NoDeeds : PySem.W.subIn K (.ref c_FullRecording) (.ref c_NoDeeds) = some false)
    (s_FullRecording_NotOnlyRounds : PySem.W.subIn K (.ref c_FullRecording) (.ref c_NotOnlyRounds) = some false)
    (s_FullRecording_FullRecording : PySem.W.subIn K (.ref c_FullRecording) (.ref c_FullRecording) = some true)
    (s_FullRecording_TellsTooMuch : PySem.W.subIn K (.ref c_FullRecording) (.ref c_TellsTooMuch) = some false)
    (s_TellsTooMuch_NotWhole : PySem.W.subIn K (.ref c_TellsTooMuch) (.ref c_NotWhole) = some false)
    (s_TellsTooMuch_NoDeeds : PySem.W.subIn K (.ref c_TellsTooMuch) (.ref c_NoDeeds) = some false)
    (s_TellsTooMuch_NotOnlyRounds : PySem.W.subIn K (.ref c_TellsTooMuch) (.ref c_NotOnlyRounds) = some false)
    (s_TellsTooMuch_FullRecording : PySem.W.subIn K (.ref c_TellsTooMuch) (.ref c_FullRecording) = some false)
    (s_TellsTooMuch_TellsTooMuch : PySem.W.subIn K (.ref c_TellsTooMuch) (.ref c_TellsTooMuch) = some true)
    (a_Reader : PySem.W.nsIn K mainGlobals "Reader" = some (some (.ref c_Reader)))
    (pg_Reader : PySem.W.plainGet K c_Reader Str.empty = true)
    (hd_Reader : PySem.W.hasDictIn K c_Reader = true)
    (po_Reader : PySem.W.plainOver K c_Reader = true)
    (sa_Reader : PySem.W.findIn K (.ref c_Reader) "__setattr__" = some (some (.builtin "object.__setattr__")))
    (mk_Reader : PySem.W.makesIn K c_Reader = true)
    (kc_Reader : PySem.W.keepIn K (.ref c_Reader) = true)
    (a_Reader_init : PySem.W.findIn K (.ref c_Reader) "__init__" = some (some (.ref f_Reader_init)))
    (i_Reader_init : PySem.W.isFn K (.ref f_Reader_init) = true)
    (n_Reader_numbers : PySem.W.findIn K (.ref c_Reader) "numbers" = some none)
    (n_Reader_place : PySem.W.findIn K (.ref c_Reader) "place" = some none)
    (l_Reader_init : K.lookup f_Reader_init = some ⟨oc_Reader_init, od_Reader_init, .func (PySem.W.fnOf "__init__" "Reader.__init__" (defArgs s_Reader_init) (defBody s_Reader_init) (defScope s_Reader_init) .none kV_Reader_init dc_Reader_init pm_Reader_init an_Reader_init cd_Reader_init ct_Reader_init), sl_Reader_init⟩)
    (o_Reader_init : PySem.W.codeIn K cd_Reader_init "Reader.__init__" = true)
    (k_Reader_init : PySem.W.keepIn K (.ref f_Reader_init) = true)
    (a_Reader_take : PySem.W.findIn K (.ref c_Reader) "take" = some (some (.ref f_Reader_take)))
    (i_Reader_take : PySem.W.isFn K (.ref f_Reader_take) = true)
    (l_Reader_take : K.lookup f_Reader_take = some ⟨oc_Reader_take, od_Reader_take, .func (PySem.W.fnOf "take" "Reader.take" (defArgs s_Reader_take) (defBody s_Reader_take) (defScope s_Reader_take) .none kV_Reader_take dc_Reader_take pm_Reader_take an_Reader_take cd_Reader_take ct_Reader_take), sl_Reader_take⟩)
    (o_Reader_take : PySem.W.codeIn K cd_Reader_take "Reader.take" = true)
    (k_Reader_take : PySem.W.keepIn K (.ref f_Reader_take) = true)
    (a_Reader_finish : PySem.W.findIn K (.ref c_Reader) "finish" = some (some (.ref f_Reader_finish)))
    (i_Reader_finish : PySem.W.isFn K (.ref f_Reader_finish) = true)
    (l_Reader_finish : K.lookup f_Reader_finish = some ⟨oc_Reader_finish, od_Reader_finish, .func (PySem.W.fnOf "finish" "Reader.finish" (defArgs s_Reader_finish) (defBody s_Reader_finish) (defScope s_Reader_finish) .none kV_Reader_finish dc_Reader_finish pm_Reader_finish an_Reader_finish cd_Reader_finish ct_Reader_finish), sl_Reader_finish⟩)
    (o_Reader_finish : PySem.W.codeIn K cd_Reader_finish "Reader.finish" = true)
    (k_Reader_finish : PySem.W.keepIn K (.ref f_Reader_finish) = true)
    (a_DeedPiece : PySem.W.nsIn K mainGlobals "DeedPiece" = some (some (.ref c_DeedPiece)))
    (pg_DeedPiece : PySem.W.plainGet K c_DeedPiece Str.empty = true)
    (hd_DeedPiece : PySem.W.hasDictIn K c_DeedPiece = true)
    (po_DeedPiece : PySem.W.plainOver K c_DeedPiece = true)
    (sa_DeedPiece : PySem.W.findIn K (.ref c_DeedPiece) "__setattr__" = some (some (.builtin "object.__setattr__")))
    (mk_DeedPiece : PySem.W.makesIn K c_DeedPiece = true)
    (kc_DeedPiece : PySem.W.keepIn K (.ref c_DeedPiece) = true)
    (a_DeedPiece_init : PySem.W.findIn K (.ref c_DeedPiece) "__init__" = some (some (.ref f_DeedPiece_init)))
    (i_DeedPiece_init : PySem.W.isFn K (.ref f_DeedPiece_init) = true)
    (n_DeedPiece_deed : PySem.W.findIn K (.ref c_DeedPiece) "deed" = some none)
    (n_DeedPiece_step : PySem.W.findIn K (.ref c_DeedPiece) "step" = some none)
    (l_DeedPiece_init : K.lookup f_DeedPiece_init = some ⟨oc_DeedPiece_init, od_DeedPiece_init, .func (PySem.W.fnOf "__init__" "DeedPiece.__init__" (defArgs s_DeedPiece_init) (defBody s_DeedPiece_init) (defScope s_DeedPiece_init) .none kV_DeedPiece_init dc_DeedPiece_init pm_DeedPiece_init an_DeedPiece_init cd_DeedPiece_init ct_DeedPiece_init), sl_DeedPiece_init⟩)
    (o_DeedPiece_init : PySem.W.codeIn K cd_DeedPiece_init "DeedPiece.__init__" = true)
    (k_DeedPiece_init : PySem.W.keepIn K (.ref f_DeedPiece_init) = true)
    (a_LoopPiece : PySem.W.nsIn K mainGlobals "LoopPiece" = some (some (.ref c_LoopPiece)))
    (pg_LoopPiece : PySem.W.plainGet K c_LoopPiece Str.empty = true)
    (hd_LoopPiece : PySem.W.hasDictIn K c_LoopPiece = true)
    (po_LoopPiece : PySem.W.plainOver K c_LoopPiece = true)
    (sa_LoopPiece : PySem.W.findIn K (.ref c_LoopPiece) "__setattr__" = some (some (.builtin "object.__setattr__")))
    (mk_LoopPiece : PySem.W.makesIn K c_LoopPiece = true)
    (kc_LoopPiece : PySem.W.keepIn K (.ref c_LoopPiece) = true)
    (a_LoopPiece_init : PySem.W.findIn K (.ref c_LoopPiece) "__init__" = some (some (.ref f_LoopPiece_init)))
    (i_LoopPiece_init : PySem.W.isFn K (.ref f_LoopPiece_init) = true)
    (n_LoopPiece_rounds : PySem.W.findIn K (.ref c_LoopPiece) "rounds" = some none)
    (n_LoopPiece_row : PySem.W.findIn K (.ref c_LoopPiece) "row" = some none)
    (l_LoopPiece_init : K.lookup f_LoopPiece_init = some ⟨oc_LoopPiece_init, od_LoopPiece_init, .func (PySem.W.fnOf "__init__" "LoopPiece.__init__" (defArgs s_LoopPiece_init) (defBody s_LoopPiece_init) (defScope s_LoopPiece_init) .none kV_LoopPiece_init dc_LoopPiece_init pm_LoopPiece_init an_LoopPiece_init cd_LoopPiece_init ct_LoopPiece_init), sl_LoopPiece_init⟩)
    (o_LoopPiece_init : PySem.W.codeIn K cd_LoopPiece_init "LoopPiece.__init__" = true)
    (k_LoopPiece_init : PySem.W.keepIn K (.ref f_LoopPiece_init) = true)
    (a_TableBoundPiece : PySem.W.nsIn K mainGlobals "TableBoundPiece" = some (some (.ref c_TableBoundPiece)))
    (pg_TableBoundPiece : PySem.W.plainGet K c_TableBoundPiece Str.empty = true)
    (hd_TableBoundPiece : PySem.W.hasDictIn K c_TableBoundPiece = true)
    (po_TableBoundPiece : PySem.W.plainOver K c_TableBoundPiece = true)
    (sa_TableBoundPiece : PySem.W.findIn K (.ref c_TableBoundPiece) "__setattr__" = some (some (.builtin "object.__setattr__")))
    (mk_TableBoundPiece : PySem.W.makesIn K c_TableBoundPiece = true)
    (kc_TableBoundPiece : PySem.W.keepIn K (.ref c_TableBoundPiece) = true)
    (a_TableBoundPiece_init : PySem.W.findIn K (.ref c_TableBoundPiece) "__init__" = some (some (.ref f_TableBoundPiece_init)))
    (i_TableBoundPiece_init : PySem.W.isFn K (.ref f_TableBoundPiece_init) = true)
    (n_TableBoundPiece_row : PySem.W.findIn K (.ref c_TableBoundPiece) "row" = some none)
    (l_TableBoundPiece_init : K.lookup f_TableBoundPiece_init = some ⟨oc_TableBoundPiece_init, od_TableBoundPiece_init, .func (PySem.W.fnOf "__init__" "TableBoundPiece.__init__" (defArgs s_TableBoundPiece_init) (defBody s_TableBoundPiece_init) (defScope s_TableBoundPiece_init) .none kV_TableBoundPiece_init dc_TableBoundPiece_init pm_TableBoundPiece_init an_TableBoundPiece_init cd_TableBoundPiece_init ct_TableBoundPiece_init), sl_TableBoundPiece_init⟩)
    (o_TableBoundPiece_init : PySem.W.codeIn K cd_TableBoundPiece_init "TableBoundPiece.__init__" = true)
    (k_TableBoundPiece_init : PySem.W.keepIn K (.ref f_TableBoundPiece_init) = true)
    (a_Stretch : PySem.W.nsIn K mainGlobals "Stretch" = some (some (.ref c_Stretch)))
    (pg_Stretch : PySem.W.plainGet K c_Stretch Str.empty = true)
    (hd_Stretch : PySem.W.hasDictIn K c_Stretch = true)
    (po_Stretch : PySem.W.plainOver K c_Stretch = true)
    (sa_Stretch : PySem.W.findIn K (.ref c_Stretch) "__setattr__" = some (some (.builtin "object.__setattr__")))
    (mk_Stretch : PySem.W.makesIn K c_Stretch = true)
    (kc_Stretch : PySem.W.keepIn K (.ref c_Stretch) = true)
    (a_Stretch_init : PySem.W.findIn K (.ref c_Stretch) "__init__" = some (some (.ref f_Stretch_init)))
    (i_Stretch_init : PySem.W.isFn K (.ref f_Stretch_init) = true)
    (n_Stretch_deeds : PySem.W.findIn K (.ref c_Stretch) "deeds" = some none)
    (n_Stretch_start : PySem.W.findIn K (.ref c_Stretch) "start" = some none)
    (n_Stretch_length : PySem.W.findIn K (.ref c_Stretch) "length" = some none)
    (n_Stretch_rounds : PySem.W.findIn K (.ref c_Stretch) "rounds" = some none)
    (n_Stretch_deep : PySem.W.findIn K (.ref c_Stretch) "deep" = some none)
    (l_Stretch_init : K.lookup f_Stretch_init = some ⟨oc_Stretch_init, od_Stretch_init, .func (PySem.W.fnOf "__init__" "Stretch.__init__" (defArgs s_Stretch_init) (defBody s_Stretch_init) (defScope s_Stretch_init) .none kV_Stretch_init dc_Stretch_init pm_Stretch_init an_Stretch_init cd_Stretch_init ct_Stretch_init), sl_Stretch_init⟩)
    (o_Stretch_init : PySem.W.codeIn K cd_Stretch_init "Stretch.__init__" = true)
    (k_Stretch_init : PySem.W.keepIn K (.ref f_Stretch_init) = true)
    (a_Folded : PySem.W.nsIn K mainGlobals "Folded" = some (some (.ref c_Folded)))
    (pg_Folded : PySem.W.plainGet K c_Folded Str.empty = true)
    (hd_Folded : PySem.W.hasDictIn K c_Folded = true)
    (po_Folded : PySem.W.plainOver K c_Folded = true)
    (sa_Folded : PySem.W.findIn K (.ref c_Folded) "__setattr__" = some (some (.builtin "object.__setattr__")))
    (mk_Folded : PySem.W.makesIn K c_Folded = true)
    (kc_Folded : PySem.W.keepIn K (.ref c_Folded) = true)
    (a_Folded_init : PySem.W.findIn K (.ref c_Folded) "__init__" = some (some (.ref f_Folded_init)))
    (i_Folded_init : PySem.W.isFn K (.ref f_Folded_init) = true)
    (n_Folded_ways : PySem.W.findIn K (.ref c_Folded) "ways" = some none)
    (n_Folded_row : PySem.W.findIn K (.ref c_Folded) "row" = some none)
    (n_Folded_pieces : PySem.W.findIn K (.ref c_Folded) "pieces" = some none)
    (n_Folded_width : PySem.W.findIn K (.ref c_Folded) "width" = some none)
    (l_Folded_init : K.lookup f_Folded_init = some ⟨oc_Folded_init, od_Folded_init, .func (PySem.W.fnOf "__init__" "Folded.__init__" (defArgs s_Folded_init) (defBody s_Folded_init) (defScope s_Folded_init) .none kV_Folded_init dc_Folded_init pm_Folded_init an_Folded_init cd_Folded_init ct_Folded_init), sl_Folded_init⟩)
    (o_Folded_init : PySem.W.codeIn K cd_Folded_init "Folded.__init__" = true)
    (k_Folded_init : PySem.W.keepIn K (.ref f_Folded_init) = true)
    (a_Guess : PySem.W.nsIn K mainGlobals "Guess" = some (some (.ref c_Guess)))
    (pg_Guess : PySem.W.plainGet K c_Guess Str.empty = true)
    (hd_Guess : PySem.W.hasDictIn K c_Guess = true)
    (po_Guess : PySem.W.plainOver K c_Guess = true)
    (sa_Guess : PySem.W.findIn K (.ref c_Guess) "__setattr__" = some (some (.builtin "object.__setattr__")))
    (mk_Guess : PySem.W.makesIn K c_Guess = true)
    (kc_Guess : PySem.W.keepIn K (.ref c_Guess) = true)
    (a_Guess_init : PySem.W.findIn K (.ref c_Guess) "__init__" = some (some (.ref f_Guess_init)))
    (i_Guess_init : PySem.W.isFn K (.ref f_Guess_init) = true)
    (n_Guess_period : PySem.W.findIn K (.ref c_Guess) "period" = some none)
    (n_Guess_tail : PySem.W.findIn K (.ref c_Guess) "tail" = some none)
    (n_Guess_deed : PySem.W.findIn K (.ref c_Guess) "deed" = some none)
    (l_Guess_init : K.lookup f_Guess_init = some ⟨oc_Guess_init, od_Guess_init, .func (PySem.W.fnOf "__init__" "Guess.__init__" (defArgs s_Guess_init) (defBody s_Guess_init) (defScope s_Guess_init) .none kV_Guess_init dc_Guess_init pm_Guess_init an_Guess_init cd_Guess_init ct_Guess_init), sl_Guess_init⟩)
    (o_Guess_init : PySem.W.codeIn K cd_Guess_init "Guess.__init__" = true)
    (k_Guess_init : PySem.W.keepIn K (.ref f_Guess_init) = true)
    (a_Table : PySem.W.nsIn K mainGlobals "Table" = some (some (.ref c_Table)))
    (pg_Table : PySem.W.plainGet K c_Table Str.empty = true)
    (hd_Table : PySem.W.hasDictIn K c_Table = true)
    (po_Table : PySem.W.plainOver K c_Table = true)
    (sa_Table : PySem.W.findIn K (.ref c_Table) "__setattr__" = some (some (.builtin "object.__setattr__")))
    (mk_Table : PySem.W.makesIn K c_Table = true)
    (kc_Table : PySem.W.keepIn K (.ref c_Table) = true)
    (a_Table_init : PySem.W.findIn K (.ref c_Table) "__init__" = some (some (.ref f_Table_init)))
    (i_Table_init : PySem.W.isFn K (.ref f_Table_init) = true)
    (n_Table_rows : PySem.W.findIn K (.ref c_Table) "rows" = some none)
    (n_Table_cursor : PySem.W.findIn K (.ref c_Table) "cursor" = some none)
    (n_Table_clipboard : PySem.W.findIn K (.ref c_Table) "clipboard" = some none)
    (l_Table_init : K.lookup f_Table_init = some ⟨oc_Table_init, od_Table_init, .func (PySem.W.fnOf "__init__" "Table.__init__" (defArgs s_Table_init) (defBody s_Table_init) (defScope s_Table_init) .none kV_Table_init dc_Table_init pm_Table_init an_Table_init cd_Table_init ct_Table_init), sl_Table_init⟩)
    (o_Table_init : PySem.W.codeIn K cd_Table_init "Table.__init__" = true)
    (k_Table_init : PySem.W.keepIn K (.ref f_Table_init) = true)
    (a_Recording : PySem.W.nsIn K mainGlobals "Recording" = some (some (.ref c_Recording)))
    (pg_Recording : PySem.W.plainGet K c_Recording Str.empty = true)
    (hd_Recording : PySem.W.hasDictIn K c_Recording = true)
    (po_Recording : PySem.W.plainOver K c_Recording = true)
    (sa_Recording : PySem.W.findIn K (.ref c_Recording) "__setattr__" = some (some (.builtin "object.__setattr__")))
    (mk_Recording : PySem.W.makesIn K c_Recording = true)
    (kc_Recording : PySem.W.keepIn K (.ref c_Recording) = true)
    (a_Recording_init : PySem.W.findIn K (.ref c_Recording) "__init__" = some (some (.ref f_Recording_init)))
    (i_Recording_init : PySem.W.isFn K (.ref f_Recording_init) = true)
    (n_Recording_deeds : PySem.W.findIn K (.ref c_Recording) "deeds" = some none)
    (l_Recording_init : K.lookup f_Recording_init = some ⟨oc_Recording_init, od_Recording_init, .func (PySem.W.fnOf "__init__" "Recording.__init__" (defArgs s_Recording_init) (defBody s_Recording_init) (defScope s_Recording_init) .none kV_Recording_init dc_Recording_init pm_Recording_init an_Recording_init cd_Recording_init ct_Recording_init), sl_Recording_init⟩)
    (o_Recording_init : PySem.W.codeIn K cd_Recording_init "Recording.__init__" = true)
    (k_Recording_init : PySem.W.keepIn K (.ref f_Recording_init) = true)
    (a_Recording_record : PySem.W.findIn K (.ref c_Recording) "record" = some (some (.ref f_Recording_record)))
    (i_Recording_record : PySem.W.isFn K (.ref f_Recording_record) = true)
    (l_Recording_record : K.lookup f_Recording_record = some ⟨oc_Recording_record, od_Recording_record, .func (PySem.W.fnOf "record" "Recording.record" (defArgs s_Recording_record) (defBody s_Recording_record) (defScope s_Recording_record) .none kV_Recording_record dc_Recording_record pm_Recording_record an_Recording_record cd_Recording_record ct_Recording_record), sl_Recording_record⟩)
    (o_Recording_record : PySem.W.codeIn K cd_Recording_record "Recording.record" = true)
    (k_Recording_record : PySem.W.keepIn K (.ref f_Recording_record) = true)
    (a_Recording_add : PySem.W.findIn K (.ref c_Recording) "add" = some (some (.ref f_Recording_add)))
    (i_Recording_add : PySem.W.isFn K (.ref f_Recording_add) = true)
    (l_Recording_add : K.lookup f_Recording_add = some ⟨oc_Recording_add, od_Recording_add, .func (PySem.W.fnOf "add" "Recording.add" (defArgs s_Recording_add) (defBody s_Recording_add) (defScope s_Recording_add) .none kV_Recording_add dc_Recording_add pm_Recording_add an_Recording_add cd_Recording_add ct_Recording_add), sl_Recording_add⟩)
    (o_Recording_add : PySem.W.codeIn K cd_Recording_add "Recording.add" = true)
    (k_Recording_add : PySem.W.keepIn K (.ref f_Recording_add) = true)
    (a_Recording_drop : PySem.W.findIn K (.ref c_Recording) "drop" = some (some (.ref f_Recording_drop)))
    (i_Recording_drop : PySem.W.isFn K (.ref f_Recording_drop) = true)
    (l_Recording_drop : K.lookup f_Recording_drop = some ⟨oc_Recording_drop, od_Recording_drop, .func (PySem.W.fnOf "drop" "Recording.drop" (defArgs s_Recording_drop) (defBody s_Recording_drop) (defScope s_Recording_drop) .none kV_Recording_drop dc_Recording_drop pm_Recording_drop an_Recording_drop cd_Recording_drop ct_Recording_drop), sl_Recording_drop⟩)
    (o_Recording_drop : PySem.W.codeIn K cd_Recording_drop "Recording.drop" = true)
    (k_Recording_drop : PySem.W.keepIn K (.ref f_Recording_drop) = true)
    (a_Recording_count : PySem.W.findIn K (.ref c_Recording) "count" = some (some (.ref f_Recording_count)))
    (i_Recording_count : PySem.W.isFn K (.ref f_Recording_count) = true)
    (l_Recording_count : K.lookup f_Recording_count = some ⟨oc_Recording_count, od_Recording_count, .func (PySem.W.fnOf "count" "Recording.count" (defArgs s_Recording_count) (defBody s_Recording_count) (defScope s_Recording_count) .none kV_Recording_count dc_Recording_count pm_Recording_count an_Recording_count cd_Recording_count ct_Recording_count), sl_Recording_count⟩)
    (o_Recording_count : PySem.W.codeIn K cd_Recording_count "Recording.count" = true)
    (k_Recording_count : PySem.W.keepIn K (.ref f_Recording_count) = true)
    (a_Recording_least : PySem.W.findIn K (.ref c_Recording) "least" = some (some (.ref f_Recording_least)))
    (i_Recording_least : PySem.W.isFn K (.ref f_Recording_least) = true)
    (l_Recording_least : K.lookup f_Recording_least = some ⟨oc_Recording_least, od_Recording_least, .func (PySem.W.fnOf "least" "Recording.least" (defArgs s_Recording_least) (defBody s_Recording_least) (defScope s_Recording_least) .none kV_Recording_least dc_Recording_least pm_Recording_least an_Recording_least cd_Recording_least ct_Recording_least), sl_Recording_least⟩)
    (o_Recording_least : PySem.W.codeIn K cd_Recording_least "Recording.least" = true)
    (k_Recording_least : PySem.W.keepIn K (.ref f_Recording_least) = true)
    (a_Recording_is_it : PySem.W.findIn K (.ref c_Recording) "is_it" = some (some (.ref f_Recording_is_it)))
    (i_Recording_is_it : PySem.W.isFn K (.ref f_Recording_is_it) = true)
    (l_Recording_is_it : K.lookup f_Recording_is_it = some ⟨oc_Recording_is_it, od_Recording_is_it, .func (PySem.W.fnOf "is_it" "Recording.is_it" (defArgs s_Recording_is_it) (defBody s_Recording_is_it) (defScope s_Recording_is_it) .none kV_Recording_is_it dc_Recording_is_it pm_Recording_is_it an_Recording_is_it cd_Recording_is_it ct_Recording_is_it), sl_Recording_is_it⟩)
    (o_Recording_is_it : PySem.W.codeIn K cd_Recording_is_it "Recording.is_it" = true)
    (k_Recording_is_it : PySem.W.keepIn K (.ref f_Recording_is_it) = true)
    (a_Recording_unroll : PySem.W.findIn K (.ref c_Recording) "unroll" = some (some (.ref f_Recording_unroll)))
    (i_Recording_unroll : PySem.W.isFn K (.ref f_Recording_unroll) = true)
    (l_Recording_unroll : K.lookup f_Recording_unroll = some ⟨oc_Recording_unroll, od_Recording_unroll, .func (PySem.W.fnOf "unroll" "Recording.unroll" (defArgs s_Recording_unroll) (defBody s_Recording_unroll) (defScope s_Recording_unroll) .none kV_Recording_unroll dc_Recording_unroll pm_Recording_unroll an_Recording_unroll cd_Recording_unroll ct_Recording_unroll), sl_Recording_unroll⟩)
    (o_Recording_unroll : PySem.W.codeIn K cd_Recording_unroll "Recording.unroll" = true)
    (k_Recording_unroll : PySem.W.keepIn K (.ref f_Recording_unroll) = true)
    (a_Recording_next_one : PySem.W.findIn K (.ref c_Recording) "next_one" = some (some (.ref f_Recording_next_one)))
    (i_Recording_next_one : PySem.W.isFn K (.ref f_Recording_next_one) = true)
    (l_Recording_next_one : K.lookup f_Recording_next_one = some ⟨oc_Recording_next_one, od_Recording_next_one, .func (PySem.W.fnOf "next_one" "Recording.next_one" (defArgs s_Recording_next_one) (defBody s_Recording_next_one) (defScope s_Recording_next_one) .none kV_Recording_next_one dc_Recording_next_one pm_Recording_next_one an_Recording_next_one cd_Recording_next_one ct_Recording_next_one), sl_Recording_next_one⟩)
    (o_Recording_next_one : PySem.W.codeIn K cd_Recording_next_one "Recording.next_one" = true)
    (k_Recording_next_one : PySem.W.keepIn K (.ref f_Recording_next_one) = true)
    (a_Recording_loops : PySem.W.findIn K (.ref c_Recording) "loops" = some (some (.ref f_Recording_loops)))
    (i_Recording_loops : PySem.W.isFn K (.ref f_Recording_loops) = true)
    (l_Recording_loops : K.lookup f_Recording_loops = some ⟨oc_Recording_loops, od_Recording_loops, .func (PySem.W.fnOf "loops" "Recording.loops" (defArgs s_Recording_loops) (defBody s_Recording_loops) (defScope s_Recording_loops) .none kV_Recording_loops dc_Recording_loops pm_Recording_loops an_Recording_loops cd_Recording_loops ct_Recording_loops), sl_Recording_loops⟩)
    (o_Recording_loops : PySem.W.codeIn K cd_Recording_loops "Recording.loops" = true)
    (k_Recording_loops : PySem.W.keepIn K (.ref f_Recording_loops) = true)
    (a_Recording_play : PySem.W.findIn K (.ref c_Recording) "play" = some (some (.ref f_Recording_play)))
    (i_Recording_play : PySem.W.isFn K (.ref f_Recording_play) = true)
    (l_Recording_play : K.lookup f_Recording_play = some ⟨oc_Recording_play, od_Recording_play, .func (PySem.W.fnOf "play" "Recording.play" (defArgs s_Recording_play) (defBody s_Recording_play) (defScope s_Recording_play) .none kV_Recording_play dc_Recording_play pm_Recording_play an_Recording_play cd_Recording_play ct_Recording_play), sl_Recording_play⟩)
    (o_Recording_play : PySem.W.codeIn K cd_Recording_play "Recording.play" = true)
    (k_Recording_play : PySem.W.keepIn K (.ref f_Recording_play) = true)
    (a_Recording_told : PySem.W.findIn K (.ref c_Recording) "told" = some (some (.ref f_Recording_told)))
    (i_Recording_told : PySem.W.isFn K (.ref f_Recording_told) = true)
    (l_Recording_told : K.lookup f_Recording_told = some ⟨oc_Recording_told, od_Recording_told, .func (PySem.W.fnOf "told" "Recording.told" (defArgs s_Recording_told) (defBody s_Recording_told) (defScope s_Recording_told) .none kV_Recording_told dc_Recording_told pm_Recording_told an_Recording_told cd_Recording_told ct_Recording_told), sl_Recording_told⟩)
    (o_Recording_told : PySem.W.codeIn K cd_Recording_told "Recording.told" = true)
    (k_Recording_told : PySem.W.keepIn K (.ref f_Recording_told) = true)
    (ha_DeedPiece : PySem.W.findIn K (.ref c_DeedPiece) "__class__" = some (some (.builtin "object.__class__")))
    (hn_DeedPiece : PySem.W.specialIn K (.builtin "object.__class__") "__get__" = some (some (.builtin "getset_descriptor.__get__")))
    (ht_DeedPiece : PySem.W.takesIn K (.builtin "object.__class__") = some true)
    (hm_DeedPiece : PySem.W.mroIn K c_DeedPiece (.type "object") = some true)
    (q_DeedPiece_DeedPiece : PySem.W.kitOne K (.ref c_DeedPiece) (.ref c_DeedPiece) = some true)
    (q_DeedPiece_LoopPiece : PySem.W.kitOne K (.ref c_DeedPiece) (.ref c_LoopPiece) = some false)
    (q_DeedPiece_TableBoundPiece : PySem.W.kitOne K (.ref c_DeedPiece) (.ref c_TableBoundPiece) = some false)
    (ha_LoopPiece : PySem.W.findIn K (.ref c_LoopPiece) "__class__" = some (some (.builtin "object.__class__")))
    (hn_LoopPiece : PySem.W.specialIn K (.builtin "object.__class__") "__get__" = some (some (.builtin "getset_descriptor.__get__")))
    (ht_LoopPiece : PySem.W.takesIn K (.builtin "object.__class__") = some true)
    (hm_LoopPiece : PySem.W.mroIn K c_LoopPiece (.type "object") = some true)
    (q_LoopPiece_DeedPiece : PySem.W.kitOne K (.ref c_LoopPiece) (.ref c_DeedPiece) = some false)
    (q_LoopPiece_LoopPiece : PySem.W.kitOne K (.ref c_LoopPiece) (.ref c_LoopPiece) = some true)
    (q_LoopPiece_TableBoundPiece : PySem.W.kitOne K (.ref c_LoopPiece) (.ref c_TableBoundPiece) = some false)
    (ha_TableBoundPiece : PySem.W.findIn K (.ref c_TableBoundPiece) "__class__" = some (some (.builtin "object.__class__")))
    (hn_TableBoundPiece : PySem.W.specialIn K (.builtin "object.__class__") "__get__" = some (some (.builtin "getset_descriptor.__get__")))
    (ht_TableBoundPiece : PySem.W.takesIn K (.builtin "object.__class__") = some true)
    (hm_TableBoundPiece : PySem.W.mroIn K c_TableBoundPiece (.type "object") = some true)
    (q_TableBoundPiece_DeedPiece : PySem.W.kitOne K (.ref c_TableBoundPiece) (.ref c_DeedPiece) = some false)
    (q_TableBoundPiece_LoopPiece : PySem.W.kitOne K (.ref c_TableBoundPiece) (.ref c_LoopPiece) = some false)
    (q_TableBoundPiece_TableBoundPiece : PySem.W.kitOne K (.ref c_TableBoundPiece) (.ref c_TableBoundPiece) = some true)
    (a_has_number : PySem.W.nsIn K mainGlobals "has_number" = some (some (.ref f_has_number)))
    (l_has_number : K.lookup f_has_number = some ⟨oc_has_number, od_has_number, .func (PySem.W.fnOf "has_number" "has_number" (defArgs s_has_number) (defBody s_has_number) (defScope s_has_number) .none kV_has_number dc_has_number pm_has_number an_has_number cd_has_number ct_has_number), sl_has_number⟩)
    (o_has_number : PySem.W.codeIn K cd_has_number "has_number" = true)
    (k_has_number : PySem.W.keepIn K (.ref f_has_number) = true)
    (a_number_of : PySem.W.nsIn K mainGlobals "number_of" = some (some (.ref f_number_of)))
    (l_number_of : K.lookup f_number_of = some ⟨oc_number_of, od_number_of, .func (PySem.W.fnOf "number_of" "number_of" (defArgs s_number_of) (defBody s_number_of) (defScope s_number_of) .none kV_number_of dc_number_of pm_number_of an_number_of cd_number_of ct_number_of), sl_number_of⟩)
    (o_number_of : PySem.W.codeIn K cd_number_of "number_of" = true)
    (k_number_of : PySem.W.keepIn K (.ref f_number_of) = true)
    (a_deed_at_round : PySem.W.nsIn K mainGlobals "deed_at_round" = some (some (.ref f_deed_at_round)))
    (l_deed_at_round : K.lookup f_deed_at_round = some ⟨oc_deed_at_round, od_deed_at_round, .func (PySem.W.fnOf "deed_at_round" "deed_at_round" (defArgs s_deed_at_round) (defBody s_deed_at_round) (defScope s_deed_at_round) .none kV_deed_at_round dc_deed_at_round pm_deed_at_round an_deed_at_round cd_deed_at_round ct_deed_at_round), sl_deed_at_round⟩)
    (o_deed_at_round : PySem.W.codeIn K cd_deed_at_round "deed_at_round" = true)
    (k_deed_at_round : PySem.W.keepIn K (.ref f_deed_at_round) = true)
    (a_step_between : PySem.W.nsIn K mainGlobals "step_between" = some (some (.ref f_step_between)))
    (l_step_between : K.lookup f_step_between = some ⟨oc_step_between, od_step_between, .func (PySem.W.fnOf "step_between" "step_between" (defArgs s_step_between) (defBody s_step_between) (defScope s_step_between) .none kV_step_between dc_step_between pm_step_between an_step_between cd_step_between ct_step_between), sl_step_between⟩)
    (o_step_between : PySem.W.codeIn K cd_step_between "step_between" = true)
    (k_step_between : PySem.W.keepIn K (.ref f_step_between) = true)
    (a_read_deed : PySem.W.nsIn K mainGlobals "read_deed" = some (some (.ref f_read_deed)))
    (l_read_deed : K.lookup f_read_deed = some ⟨oc_read_deed, od_read_deed, .func (PySem.W.fnOf "read_deed" "read_deed" (defArgs s_read_deed) (defBody s_read_deed) (defScope s_read_deed) .none kV_read_deed dc_read_deed pm_read_deed an_read_deed cd_read_deed ct_read_deed), sl_read_deed⟩)
    (o_read_deed : PySem.W.codeIn K cd_read_deed "read_deed" = true)
    (k_read_deed : PySem.W.keepIn K (.ref f_read_deed) = true)
    (a_whole_deed : PySem.W.nsIn K mainGlobals "whole_deed" = some (some (.ref f_whole_deed)))
    (l_whole_deed : K.lookup f_whole_deed = some ⟨oc_whole_deed, od_whole_deed, .func (PySem.W.fnOf "whole_deed" "whole_deed" (defArgs s_whole_deed) (defBody s_whole_deed) (defScope s_whole_deed) .none kV_whole_deed dc_whole_deed pm_whole_deed an_whole_deed cd_whole_deed ct_whole_deed), sl_whole_deed⟩)
    (o_whole_deed : PySem.W.codeIn K cd_whole_deed "whole_deed" = true)
    (k_whole_deed : PySem.W.keepIn K (.ref f_whole_deed) = true)
    (a_whole_deeds : PySem.W.nsIn K mainGlobals "whole_deeds" = some (some (.ref f_whole_deeds)))
    (l_whole_deeds : K.lookup f_whole_deeds = some ⟨oc_whole_deeds, od_whole_deeds, .func (PySem.W.fnOf "whole_deeds" "whole_deeds" (defArgs s_whole_deeds) (defBody s_whole_deeds) (defScope s_whole_deeds) .none kV_whole_deeds dc_whole_deeds pm_whole_deeds an_whole_deeds cd_whole_deeds ct_whole_deeds), sl_whole_deeds⟩)
    (o_whole_deeds : PySem.W.codeIn K cd_whole_deeds "whole_deeds" = true)
    (k_whole_deeds : PySem.W.keepIn K (.ref f_whole_deeds) = true)
    (a_deeds_as_numbers : PySem.W.nsIn K mainGlobals "deeds_as_numbers" = some (some (.ref f_deeds_as_numbers)))
    (l_deeds_as_numbers : K.lookup f_deeds_as_numbers = some ⟨oc_deeds_as_numbers, od_deeds_as_numbers, .func (PySem.W.fnOf "deeds_as_numbers" "deeds_as_numbers" (defArgs s_deeds_as_numbers) (defBody s_deeds_as_numbers) (defScope s_deeds_as_numbers) .none kV_deeds_as_numbers dc_deeds_as_numbers pm_deeds_as_numbers an_deeds_as_numbers cd_deeds_as_numbers ct_deeds_as_numbers), sl_deeds_as_numbers⟩)
    (o_deeds_as_numbers : PySem.W.codeIn K cd_deeds_as_numbers "deeds_as_numbers" = true)
    (k_deeds_as_numbers : PySem.W.keepIn K (.ref f_deeds_as_numbers) = true)
    (a_read_piece : PySem.W.nsIn K mainGlobals "read_piece" = some (some (.ref f_read_piece)))
    (l_read_piece : K.lookup f_read_piece = some ⟨oc_read_piece, od_read_piece, .func (PySem.W.fnOf "read_piece" "read_piece" (defArgs s_read_piece) (defBody s_read_piece) (defScope s_read_piece) .none kV_read_piece dc_read_piece pm_read_piece an_read_piece cd_read_piece ct_read_piece), sl_read_piece⟩)
    (o_read_piece : PySem.W.codeIn K cd_read_piece "read_piece" = true)
    (k_read_piece : PySem.W.keepIn K (.ref f_read_piece) = true)
    (a_read_row : PySem.W.nsIn K mainGlobals "read_row" = some (some (.ref f_read_row)))
    (l_read_row : K.lookup f_read_row = some ⟨oc_read_row, od_read_row, .func (PySem.W.fnOf "read_row" "read_row" (defArgs s_read_row) (defBody s_read_row) (defScope s_read_row) .none kV_read_row dc_read_row pm_read_row an_read_row cd_read_row ct_read_row), sl_read_row⟩)
    (o_read_row : PySem.W.codeIn K cd_read_row "read_row" = true)
    (k_read_row : PySem.W.keepIn K (.ref f_read_row) = true)
    (a_count_pieces : PySem.W.nsIn K mainGlobals "count_pieces" = some (some (.ref f_count_pieces)))
    (l_count_pieces : K.lookup f_count_pieces = some ⟨oc_count_pieces, od_count_pieces, .func (PySem.W.fnOf "count_pieces" "count_pieces" (defArgs s_count_pieces) (defBody s_count_pieces) (defScope s_count_pieces) .none kV_count_pieces dc_count_pieces pm_count_pieces an_count_pieces cd_count_pieces ct_count_pieces), sl_count_pieces⟩)
    (o_count_pieces : PySem.W.codeIn K cd_count_pieces "count_pieces" = true)
    (k_count_pieces : PySem.W.keepIn K (.ref f_count_pieces) = true)
    (a_whole_program : PySem.W.nsIn K mainGlobals "whole_program" = some (some (.ref f_whole_program)))
    (l_whole_program : K.lookup f_whole_program = some ⟨oc_whole_program, od_whole_program, .func (PySem.W.fnOf "whole_program" "whole_program" (defArgs s_whole_program) (defBody s_whole_program) (defScope s_whole_program) .none kV_whole_program dc_whole_program pm_whole_program an_whole_program cd_whole_program ct_whole_program), sl_whole_program⟩)
    (o_whole_program : PySem.W.codeIn K cd_whole_program "whole_program" = true)
    (k_whole_program : PySem.W.keepIn K (.ref f_whole_program) = true)
    (a_is_table_bound : PySem.W.nsIn K mainGlobals "is_table_bound" = some (some (.ref f_is_table_bound)))
    (l_is_table_bound : K.lookup f_is_table_bound = some ⟨oc_is_table_bound, od_is_table_bound, .func (PySem.W.fnOf "is_table_bound" "is_table_bound" (defArgs s_is_table_bound) (defBody s_is_table_bound) (defScope s_is_table_bound) .none kV_is_table_bound dc_is_table_bound pm_is_table_bound an_is_table_bound cd_is_table_bound ct_is_table_bound), sl_is_table_bound⟩)
    (o_is_table_bound : PySem.W.codeIn K cd_is_table_bound "is_table_bound" = true)
    (k_is_table_bound : PySem.W.keepIn K (.ref f_is_table_bound) = true)
    (a_tell : PySem.W.nsIn K mainGlobals "tell" = some (some (.ref f_tell)))
    (l_tell : K.lookup f_tell = some ⟨oc_tell, od_tell, .func (PySem.W.fnOf "tell" "tell" (defArgs s_tell) (defBody s_tell) (defScope s_tell) .none kV_tell dc_tell pm_tell an_tell cd_tell ct_tell), sl_tell⟩)
    (o_tell : PySem.W.codeIn K cd_tell "tell" = true)
    (k_tell : PySem.W.keepIn K (.ref f_tell) = true)
    (a_count_told : PySem.W.nsIn K mainGlobals "count_told" = some (some (.ref f_count_told)))
    (l_count_told : K.lookup f_count_told = some ⟨oc_count_told, od_count_told, .func (PySem.W.fnOf "count_told" "count_told" (defArgs s_count_told) (defBody s_count_told) (defScope s_count_told) .none kV_count_told dc_count_told pm_count_told an_count_told cd_count_told ct_count_told), sl_count_told⟩)
    (o_count_told : PySem.W.codeIn K cd_count_told "count_told" = true)
    (k_count_told : PySem.W.keepIn K (.ref f_count_told) = true)
    (a_told_by : PySem.W.nsIn K mainGlobals "told_by" = some (some (.ref f_told_by)))
    (l_told_by : K.lookup f_told_by = some ⟨oc_told_by, od_told_by, .func (PySem.W.fnOf "told_by" "told_by" (defArgs s_told_by) (defBody s_told_by) (defScope s_told_by) .none kV_told_by dc_told_by pm_told_by an_told_by cd_told_by ct_told_by), sl_told_by⟩)
    (o_told_by : PySem.W.codeIn K cd_told_by "told_by" = true)
    (k_told_by : PySem.W.keepIn K (.ref f_told_by) = true)
    (a_row_as_numbers : PySem.W.nsIn K mainGlobals "row_as_numbers" = some (some (.ref f_row_as_numbers)))
    (l_row_as_numbers : K.lookup f_row_as_numbers = some ⟨oc_row_as_numbers, od_row_as_numbers, .func (PySem.W.fnOf "row_as_numbers" "row_as_numbers" (defArgs s_row_as_numbers) (defBody s_row_as_numbers) (defScope s_row_as_numbers) .none kV_row_as_numbers dc_row_as_numbers pm_row_as_numbers an_row_as_numbers cd_row_as_numbers ct_row_as_numbers), sl_row_as_numbers⟩)
    (o_row_as_numbers : PySem.W.codeIn K cd_row_as_numbers "row_as_numbers" = true)
    (k_row_as_numbers : PySem.W.keepIn K (.ref f_row_as_numbers) = true)
    (a_fold : PySem.W.nsIn K mainGlobals "fold" = some (some (.ref f_fold)))
    (l_fold : K.lookup f_fold = some ⟨oc_fold, od_fold, .func (PySem.W.fnOf "fold" "fold" (defArgs s_fold) (defBody s_fold) (defScope s_fold) .none kV_fold dc_fold pm_fold an_fold cd_fold ct_fold), sl_fold⟩)
    (o_fold : PySem.W.codeIn K cd_fold "fold" = true)
    (k_fold : PySem.W.keepIn K (.ref f_fold) = true)
    (a_fold_stretch : PySem.W.nsIn K mainGlobals "fold_stretch" = some (some (.ref f_fold_stretch)))
    (l_fold_stretch : K.lookup f_fold_stretch = some ⟨oc_fold_stretch, od_fold_stretch, .func (PySem.W.fnOf "fold_stretch" "fold_stretch" (defArgs s_fold_stretch) (defBody s_fold_stretch) (defScope s_fold_stretch) .none kV_fold_stretch dc_fold_stretch pm_fold_stretch an_fold_stretch cd_fold_stretch ct_fold_stretch), sl_fold_stretch⟩)
    (o_fold_stretch : PySem.W.codeIn K cd_fold_stretch "fold_stretch" = true)
    (k_fold_stretch : PySem.W.keepIn K (.ref f_fold_stretch) = true)
    (a_fold_left : PySem.W.nsIn K mainGlobals "fold_left" = some (some (.ref f_fold_left)))
    (l_fold_left : K.lookup f_fold_left = some ⟨oc_fold_left, od_fold_left, .func (PySem.W.fnOf "fold_left" "fold_left" (defArgs s_fold_left) (defBody s_fold_left) (defScope s_fold_left) .none kV_fold_left dc_fold_left pm_fold_left an_fold_left cd_fold_left ct_fold_left), sl_fold_left⟩)
    (o_fold_left : PySem.W.codeIn K cd_fold_left "fold_left" = true)
    (k_fold_left : PySem.W.keepIn K (.ref f_fold_left) = true)
    (a_deed_choices : PySem.W.nsIn K mainGlobals "deed_choices" = some (some (.ref f_deed_choices)))
    (l_deed_choices : K.lookup f_deed_choices = some ⟨oc_deed_choices, od_deed_choices, .func (PySem.W.fnOf "deed_choices" "deed_choices" (defArgs s_deed_choices) (defBody s_deed_choices) (defScope s_deed_choices) .none kV_deed_choices dc_deed_choices pm_deed_choices an_deed_choices cd_deed_choices ct_deed_choices), sl_deed_choices⟩)
    (o_deed_choices : PySem.W.codeIn K cd_deed_choices "deed_choices" = true)
    (k_deed_choices : PySem.W.keepIn K (.ref f_deed_choices) = true)
    (a_loop_choices : PySem.W.nsIn K mainGlobals "loop_choices" = some (some (.ref f_loop_choices)))
    (l_loop_choices : K.lookup f_loop_choices = some ⟨oc_loop_choices, od_loop_choices, .func (PySem.W.fnOf "loop_choices" "loop_choices" (defArgs s_loop_choices) (defBody s_loop_choices) (defScope s_loop_choices) .none kV_loop_choices dc_loop_choices pm_loop_choices an_loop_choices cd_loop_choices ct_loop_choices), sl_loop_choices⟩)
    (o_loop_choices : PySem.W.codeIn K cd_loop_choices "loop_choices" = true)
    (k_loop_choices : PySem.W.keepIn K (.ref f_loop_choices) = true)
    (a_is_same_each_round : PySem.W.nsIn K mainGlobals "is_same_each_round" = some (some (.ref f_is_same_each_round)))
    (l_is_same_each_round : K.lookup f_is_same_each_round = some ⟨oc_is_same_each_round, od_is_same_each_round, .func (PySem.W.fnOf "is_same_each_round" "is_same_each_round" (defArgs s_is_same_each_round) (defBody s_is_same_each_round) (defScope s_is_same_each_round) .none kV_is_same_each_round dc_is_same_each_round pm_is_same_each_round an_is_same_each_round cd_is_same_each_round ct_is_same_each_round), sl_is_same_each_round⟩)
    (o_is_same_each_round : PySem.W.codeIn K cd_is_same_each_round "is_same_each_round" = true)
    (k_is_same_each_round : PySem.W.keepIn K (.ref f_is_same_each_round) = true)
    (a_most_rounds : PySem.W.nsIn K mainGlobals "most_rounds" = some (some (.ref f_most_rounds)))
    (l_most_rounds : K.lookup f_most_rounds = some ⟨oc_most_rounds, od_most_rounds, .func (PySem.W.fnOf "most_rounds" "most_rounds" (defArgs s_most_rounds) (defBody s_most_rounds) (defScope s_most_rounds) .none kV_most_rounds dc_most_rounds pm_most_rounds an_most_rounds cd_most_rounds ct_most_rounds), sl_most_rounds⟩)
    (o_most_rounds : PySem.W.codeIn K cd_most_rounds "most_rounds" = true)
    (k_most_rounds : PySem.W.keepIn K (.ref f_most_rounds) = true)
    (a_plain_loops : PySem.W.nsIn K mainGlobals "plain_loops" = some (some (.ref f_plain_loops)))
    (l_plain_loops : K.lookup f_plain_loops = some ⟨oc_plain_loops, od_plain_loops, .func (PySem.W.fnOf "plain_loops" "plain_loops" (defArgs s_plain_loops) (defBody s_plain_loops) (defScope s_plain_loops) .none kV_plain_loops dc_plain_loops pm_plain_loops an_plain_loops cd_plain_loops ct_plain_loops), sl_plain_loops⟩)
    (o_plain_loops : PySem.W.codeIn K cd_plain_loops "plain_loops" = true)
    (k_plain_loops : PySem.W.keepIn K (.ref f_plain_loops) = true)
    (a_goes_along : PySem.W.nsIn K mainGlobals "goes_along" = some (some (.ref f_goes_along)))
    (l_goes_along : K.lookup f_goes_along = some ⟨oc_goes_along, od_goes_along, .func (PySem.W.fnOf "goes_along" "goes_along" (defArgs s_goes_along) (defBody s_goes_along) (defScope s_goes_along) .none kV_goes_along dc_goes_along pm_goes_along an_goes_along cd_goes_along ct_goes_along), sl_goes_along⟩)
    (o_goes_along : PySem.W.codeIn K cd_goes_along "goes_along" = true)
    (k_goes_along : PySem.W.keepIn K (.ref f_goes_along) = true)
    (a_tail_of : PySem.W.nsIn K mainGlobals "tail_of" = some (some (.ref f_tail_of)))
    (l_tail_of : K.lookup f_tail_of = some ⟨oc_tail_of, od_tail_of, .func (PySem.W.fnOf "tail_of" "tail_of" (defArgs s_tail_of) (defBody s_tail_of) (defScope s_tail_of) .none kV_tail_of dc_tail_of pm_tail_of an_tail_of cd_tail_of ct_tail_of), sl_tail_of⟩)
    (o_tail_of : PySem.W.codeIn K cd_tail_of "tail_of" = true)
    (k_tail_of : PySem.W.keepIn K (.ref f_tail_of) = true)
    (a_does_count : PySem.W.nsIn K mainGlobals "does_count" = some (some (.ref f_does_count)))
    (l_does_count : K.lookup f_does_count = some ⟨oc_does_count, od_does_count, .func (PySem.W.fnOf "does_count" "does_count" (defArgs s_does_count) (defBody s_does_count) (defScope s_does_count) .none kV_does_count dc_does_count pm_does_count an_does_count cd_does_count ct_does_count), sl_does_count⟩)
    (o_does_count : PySem.W.codeIn K cd_does_count "does_count" = true)
    (k_does_count : PySem.W.keepIn K (.ref f_does_count) = true)
    (a_deed_behind : PySem.W.nsIn K mainGlobals "deed_behind" = some (some (.ref f_deed_behind)))
    (l_deed_behind : K.lookup f_deed_behind = some ⟨oc_deed_behind, od_deed_behind, .func (PySem.W.fnOf "deed_behind" "deed_behind" (defArgs s_deed_behind) (defBody s_deed_behind) (defScope s_deed_behind) .none kV_deed_behind dc_deed_behind pm_deed_behind an_deed_behind cd_deed_behind ct_deed_behind), sl_deed_behind⟩)
    (o_deed_behind : PySem.W.codeIn K cd_deed_behind "deed_behind" = true)
    (k_deed_behind : PySem.W.keepIn K (.ref f_deed_behind) = true)
    (a_guess_next : PySem.W.nsIn K mainGlobals "guess_next" = some (some (.ref f_guess_next)))
    (l_guess_next : K.lookup f_guess_next = some ⟨oc_guess_next, od_guess_next, .func (PySem.W.fnOf "guess_next" "guess_next" (defArgs s_guess_next) (defBody s_guess_next) (defScope s_guess_next) .none kV_guess_next dc_guess_next pm_guess_next an_guess_next cd_guess_next ct_guess_next), sl_guess_next⟩)
    (o_guess_next : PySem.W.codeIn K cd_guess_next "guess_next" = true)
    (k_guess_next : PySem.W.keepIn K (.ref f_guess_next) = true)
    (a_read_value : PySem.W.nsIn K mainGlobals "read_value" = some (some (.ref f_read_value)))
    (l_read_value : K.lookup f_read_value = some ⟨oc_read_value, od_read_value, .func (PySem.W.fnOf "read_value" "read_value" (defArgs s_read_value) (defBody s_read_value) (defScope s_read_value) .none kV_read_value dc_read_value pm_read_value an_read_value cd_read_value ct_read_value), sl_read_value⟩)
    (o_read_value : PySem.W.codeIn K cd_read_value "read_value" = true)
    (k_read_value : PySem.W.keepIn K (.ref f_read_value) = true)
    (a_whole_table : PySem.W.nsIn K mainGlobals "whole_table" = some (some (.ref f_whole_table)))
    (l_whole_table : K.lookup f_whole_table = some ⟨oc_whole_table, od_whole_table, .func (PySem.W.fnOf "whole_table" "whole_table" (defArgs s_whole_table) (defBody s_whole_table) (defScope s_whole_table) .none kV_whole_table dc_whole_table pm_whole_table an_whole_table cd_whole_table ct_whole_table), sl_whole_table⟩)
    (o_whole_table : PySem.W.codeIn K cd_whole_table "whole_table" = true)
    (k_whole_table : PySem.W.keepIn K (.ref f_whole_table) = true)
    (a_table_as_numbers : PySem.W.nsIn K mainGlobals "table_as_numbers" = some (some (.ref f_table_as_numbers)))
    (l_table_as_numbers : K.lookup f_table_as_numbers = some ⟨oc_table_as_numbers, od_table_as_numbers, .func (PySem.W.fnOf "table_as_numbers" "table_as_numbers" (defArgs s_table_as_numbers) (defBody s_table_as_numbers) (defScope s_table_as_numbers) .none kV_table_as_numbers dc_table_as_numbers pm_table_as_numbers an_table_as_numbers cd_table_as_numbers ct_table_as_numbers), sl_table_as_numbers⟩)
    (o_table_as_numbers : PySem.W.codeIn K cd_table_as_numbers "table_as_numbers" = true)
    (k_table_as_numbers : PySem.W.keepIn K (.ref f_table_as_numbers) = true)
    (a_found_below : PySem.W.nsIn K mainGlobals "found_below" = some (some (.ref f_found_below)))
    (l_found_below : K.lookup f_found_below = some ⟨oc_found_below, od_found_below, .func (PySem.W.fnOf "found_below" "found_below" (defArgs s_found_below) (defBody s_found_below) (defScope s_found_below) .none kV_found_below dc_found_below pm_found_below an_found_below cd_found_below ct_found_below), sl_found_below⟩)
    (o_found_below : PySem.W.codeIn K cd_found_below "found_below" = true)
    (k_found_below : PySem.W.keepIn K (.ref f_found_below) = true)
    (a_new_value : PySem.W.nsIn K mainGlobals "new_value" = some (some (.ref f_new_value)))
    (l_new_value : K.lookup f_new_value = some ⟨oc_new_value, od_new_value, .func (PySem.W.fnOf "new_value" "new_value" (defArgs s_new_value) (defBody s_new_value) (defScope s_new_value) .none kV_new_value dc_new_value pm_new_value an_new_value cd_new_value ct_new_value), sl_new_value⟩)
    (o_new_value : PySem.W.codeIn K cd_new_value "new_value" = true)
    (k_new_value : PySem.W.keepIn K (.ref f_new_value) = true)
    (a_fault_of : PySem.W.nsIn K mainGlobals "fault_of" = some (some (.ref f_fault_of)))
    (l_fault_of : K.lookup f_fault_of = some ⟨oc_fault_of, od_fault_of, .func (PySem.W.fnOf "fault_of" "fault_of" (defArgs s_fault_of) (defBody s_fault_of) (defScope s_fault_of) .none kV_fault_of dc_fault_of pm_fault_of an_fault_of cd_fault_of ct_fault_of), sl_fault_of⟩)
    (o_fault_of : PySem.W.codeIn K cd_fault_of "fault_of" = true)
    (k_fault_of : PySem.W.keepIn K (.ref f_fault_of) = true)
    (a_do_deed : PySem.W.nsIn K mainGlobals "do_deed" = some (some (.ref f_do_deed)))
    (l_do_deed : K.lookup f_do_deed = some ⟨oc_do_deed, od_do_deed, .func (PySem.W.fnOf "do_deed" "do_deed" (defArgs s_do_deed) (defBody s_do_deed) (defScope s_do_deed) .none kV_do_deed dc_do_deed pm_do_deed an_do_deed cd_do_deed ct_do_deed), sl_do_deed⟩)
    (o_do_deed : PySem.W.codeIn K cd_do_deed "do_deed" = true)
    (k_do_deed : PySem.W.keepIn K (.ref f_do_deed) = true)
    (a_run_deeds : PySem.W.nsIn K mainGlobals "run_deeds" = some (some (.ref f_run_deeds)))
    (l_run_deeds : K.lookup f_run_deeds = some ⟨oc_run_deeds, od_run_deeds, .func (PySem.W.fnOf "run_deeds" "run_deeds" (defArgs s_run_deeds) (defBody s_run_deeds) (defScope s_run_deeds) .none kV_run_deeds dc_run_deeds pm_run_deeds an_run_deeds cd_run_deeds ct_run_deeds), sl_run_deeds⟩)
    (o_run_deeds : PySem.W.codeIn K cd_run_deeds "run_deeds" = true)
    (k_run_deeds : PySem.W.keepIn K (.ref f_run_deeds) = true)
    (a_compare : PySem.W.nsIn K mainGlobals "compare" = some (some (.ref f_compare)))
    (l_compare : K.lookup f_compare = some ⟨oc_compare, od_compare, .func (PySem.W.fnOf "compare" "compare" (defArgs s_compare) (defBody s_compare) (defScope s_compare) .none kV_compare dc_compare pm_compare an_compare cd_compare ct_compare), sl_compare⟩)
    (o_compare : PySem.W.codeIn K cd_compare "compare" = true)
    (k_compare : PySem.W.keepIn K (.ref f_compare) = true)
    (a_do_call : PySem.W.nsIn K mainGlobals "do_call" = some (some (.ref f_do_call)))
    (l_do_call : K.lookup f_do_call = some ⟨oc_do_call, od_do_call, .func (PySem.W.fnOf "do_call" "do_call" (defArgs s_do_call) (defBody s_do_call) (defScope s_do_call) .none kV_do_call dc_do_call pm_do_call an_do_call cd_do_call ct_do_call), sl_do_call⟩)
    (o_do_call : PySem.W.codeIn K cd_do_call "do_call" = true)
    (k_do_call : PySem.W.keepIn K (.ref f_do_call) = true)
    (a_answer : PySem.W.nsIn K mainGlobals "answer" = some (some (.ref f_answer)))
    (l_answer : K.lookup f_answer = some ⟨oc_answer, od_answer, .func (PySem.W.fnOf "answer" "answer" (defArgs s_answer) (defBody s_answer) (defScope s_answer) .none kV_answer dc_answer pm_answer an_answer cd_answer ct_answer), sl_answer⟩)
    (o_answer : PySem.W.codeIn K cd_answer "answer" = true)
    (k_answer : PySem.W.keepIn K (.ref f_answer) = true)
    (a_answers : PySem.W.nsIn K mainGlobals "answers" = some (some (.ref f_answers)))
    (l_answers : K.lookup f_answers = some ⟨oc_answers, od_answers, .func (PySem.W.fnOf "answers" "answers" (defArgs s_answers) (defBody s_answers) (defScope s_answers) .none kV_answers dc_answers pm_answers an_answers cd_answers ct_answers), sl_answers⟩)
    (o_answers : PySem.W.codeIn K cd_answers "answers" = true)
    (k_answers : PySem.W.keepIn K (.ref f_answers) = true)
    (a_DOWN : PySem.W.nsIn K mainGlobals "DOWN" = some (some (.int 0 tk_DOWN)))
    (a_UP : PySem.W.nsIn K mainGlobals "UP" = some (some (.int 1 tk_UP)))
    (a_TOP : PySem.W.nsIn K mainGlobals "TOP" = some (some (.int 2 tk_TOP)))
    (a_WRITE : PySem.W.nsIn K mainGlobals "WRITE" = some (some (.int 3 tk_WRITE)))
    (a_ADD_deeds : PySem.W.nsIn K mainGlobals "ADD_deeds" = some (some (.int 4 tk_ADD_deeds)))
    (a_COPY : PySem.W.nsIn K mainGlobals "COPY" = some (some (.int 5 tk_COPY)))
    (a_PASTE : PySem.W.nsIn K mainGlobals "PASTE" = some (some (.int 6 tk_PASTE)))
    (a_DELETE : PySem.W.nsIn K mainGlobals "DELETE" = some (some (.int 7 tk_DELETE)))
    (a_DOUBLE : PySem.W.nsIn K mainGlobals "DOUBLE" = some (some (.int 8 tk_DOUBLE)))
    (a_FIND : PySem.W.nsIn K mainGlobals "FIND" = some (some (.int 9 tk_FIND)))
    (a_KINDS_WITH_FIELD : PySem.W.nsIn K mainGlobals "KINDS_WITH_FIELD" = some (some (.ref t_KINDS_WITH_FIELD)))
    (l_KINDS_WITH_FIELD : K.lookup t_KINDS_WITH_FIELD = some ⟨.type "tuple", dd_KINDS_WITH_FIELD, .seq #[.int 3 tk_KINDS_WITH_FIELD_0, .int 4 tk_KINDS_WITH_FIELD_1, .int 5 tk_KINDS_WITH_FIELD_2, .int 6 tk_KINDS_WITH_FIELD_3, .int 9 tk_KINDS_WITH_FIELD_4] nn_KINDS_WITH_FIELD, sl_KINDS_WITH_FIELD⟩)
    (a_KINDS_WITH_NUMBER : PySem.W.nsIn K mainGlobals "KINDS_WITH_NUMBER" = some (some (.ref t_KINDS_WITH_NUMBER)))
    (l_KINDS_WITH_NUMBER : K.lookup t_KINDS_WITH_NUMBER = some ⟨.type "tuple", dd_KINDS_WITH_NUMBER, .seq #[.int 3 tk_KINDS_WITH_NUMBER_0, .int 4 tk_KINDS_WITH_NUMBER_1, .int 9 tk_KINDS_WITH_NUMBER_2] nn_KINDS_WITH_NUMBER, sl_KINDS_WITH_NUMBER⟩)
    (a_LAST_FIELD : PySem.W.nsIn K mainGlobals "LAST_FIELD" = some (some (.int 2 tk_LAST_FIELD)))
    (a_MOST_NUMBER : PySem.W.nsIn K mainGlobals "MOST_NUMBER" = some (some (.int 999 tk_MOST_NUMBER)))
    (a_MOST_DEEDS : PySem.W.nsIn K mainGlobals "MOST_DEEDS" = some (some (.int 14 tk_MOST_DEEDS)))
    (a_DEED : PySem.W.nsIn K mainGlobals "DEED" = some (some (.int 0 tk_DEED)))
    (a_LOOP : PySem.W.nsIn K mainGlobals "LOOP" = some (some (.int 1 tk_LOOP)))
    (a_PART : PySem.W.nsIn K mainGlobals "PART" = some (some (.int 3 tk_PART)))
    (a_MOST_ROUNDS : PySem.W.nsIn K mainGlobals "MOST_ROUNDS" = some (some (.int 9 tk_MOST_ROUNDS)))
    (a_MOST_PIECES : PySem.W.nsIn K mainGlobals "MOST_PIECES" = some (some (.int 16 tk_MOST_PIECES)))
    (a_MOST_DEEP : PySem.W.nsIn K mainGlobals "MOST_DEEP" = some (some (.int 3 tk_MOST_DEEP)))
    (a_MOST_TOLD : PySem.W.nsIn K mainGlobals "MOST_TOLD" = some (some (.int 60 tk_MOST_TOLD)))
    (a_MOST_LOOPS_DEEP : PySem.W.nsIn K mainGlobals "MOST_LOOPS_DEEP" = some (some (.int 2 tk_MOST_LOOPS_DEEP)))
    (a_MOST_ROWS : PySem.W.nsIn K mainGlobals "MOST_ROWS" = some (some (.int 8 tk_MOST_ROWS)))
    (a_WELL : PySem.W.nsIn K mainGlobals "WELL" = some (some (.int 0 tk_WELL)))
    (a_NO_ROW_HERE : PySem.W.nsIn K mainGlobals "NO_ROW_HERE" = some (some (.int 1 tk_NO_ROW_HERE)))
    (a_AT_ROW_0 : PySem.W.nsIn K mainGlobals "AT_ROW_0" = some (some (.int 2 tk_AT_ROW_0)))
    (a_BEYOND_999 : PySem.W.nsIn K mainGlobals "BEYOND_999" = some (some (.int 3 tk_BEYOND_999)))
    (a_ROWS_FULL : PySem.W.nsIn K mainGlobals "ROWS_FULL" = some (some (.int 4 tk_ROWS_FULL)))
    (a_NONE_FOUND : PySem.W.nsIn K mainGlobals "NONE_FOUND" = some (some (.int 5 tk_NONE_FOUND)))
    (a_RECORD : PySem.W.nsIn K mainGlobals "RECORD" = some (some (.int 0 tk_RECORD)))
    (a_ADD_recording : PySem.W.nsIn K mainGlobals "ADD_recording" = some (some (.int 1 tk_ADD_recording)))
    (a_DROP : PySem.W.nsIn K mainGlobals "DROP" = some (some (.int 2 tk_DROP)))
    (a_COUNT : PySem.W.nsIn K mainGlobals "COUNT" = some (some (.int 3 tk_COUNT)))
    (a_LEAST : PySem.W.nsIn K mainGlobals "LEAST" = some (some (.int 4 tk_LEAST)))
    (a_IS_IT : PySem.W.nsIn K mainGlobals "IS_IT" = some (some (.int 5 tk_IS_IT)))
    (a_UNROLL : PySem.W.nsIn K mainGlobals "UNROLL" = some (some (.int 6 tk_UNROLL)))
    (a_NEXT_ONE : PySem.W.nsIn K mainGlobals "NEXT_ONE" = some (some (.int 7 tk_NEXT_ONE)))
    (a_LOOPS : PySem.W.nsIn K mainGlobals "LOOPS" = some (some (.int 8 tk_LOOPS)))
    (a_PLAY : PySem.W.nsIn K mainGlobals "PLAY" = some (some (.int 9 tk_PLAY)))
    (z_abs : PySem.W.nsIn K mainGlobals "abs" = some none)
    (z_isinstance : PySem.W.nsIn K mainGlobals "isinstance" = some none)
    (z_len : PySem.W.nsIn K mainGlobals "len" = some none)
    (z_list : PySem.W.nsIn K mainGlobals "list" = some none)
    (z_min : PySem.W.nsIn K mainGlobals "min" = some none)
    (z_range : PySem.W.nsIn K mainGlobals "range" = some none)
    : Txt K mg ⟨c_NotWhole, c_NoDeeds, c_NotOnlyRounds, c_FullRecording, c_TellsTooMuch, c_Reader, c_DeedPiece, c_LoopPiece, c_TableBoundPiece, c_Stretch, c_Folded, c_Guess, c_Table, c_Recording, f_Reader_init, f_Reader_take, f_Reader_finish, f_has_number, f_number_of, f_deed_at_round, f_step_between, f_read_deed, f_whole_deed, f_whole_deeds, f_deeds_as_numbers, f_DeedPiece_init, f_LoopPiece_init, f_TableBoundPiece_init, f_read_piece, f_read_row, f_count_pieces, f_whole_program, f_is_table_bound, f_tell, f_count_told, f_told_by, f_row_as_numbers, f_Stretch_init, f_Folded_init, f_fold, f_fold_stretch, f_fold_left, f_deed_choices, f_loop_choices, f_is_same_each_round, f_most_rounds, f_plain_loops, f_Guess_init, f_goes_along, f_tail_of, f_does_count, f_deed_behind, f_guess_next, f_Table_init, f_read_value, f_whole_table, f_table_as_numbers, f_found_below, f_new_value, f_fault_of, f_do_deed, f_run_deeds, f_Recording_init, f_Recording_record, f_Recording_add, f_Recording_drop, f_Recording_count, f_Recording_least, f_Recording_is_it, f_Recording_unroll, f_Recording_next_one, f_Recording_loops, f_Recording_play, f_Recording_told, f_compare, f_do_call, f_answer, f_answers, t_KINDS_WITH_FIELD, t_KINDS_WITH_NUMBER⟩ := {
  er_NotWhole := ⟨PySem.W.mg_of X G a_NotWhole, x_NotWhole, k_NotWhole, b_NotWhole, t_NotWhole⟩
  er_NoDeeds := ⟨PySem.W.mg_of X G a_NoDeeds, x_NoDeeds, k_NoDeeds, b_NoDeeds, t_NoDeeds⟩
  er_NotOnlyRounds := ⟨PySem.W.mg_of X G a_NotOnlyRounds, x_NotOnlyRounds, k_NotOnlyRounds, b_NotOnlyRounds, t_NotOnlyRounds⟩
  er_FullRecording := ⟨PySem.W.mg_of X G a_FullRecording, x_FullRecording, k_FullRecording, b_FullRecording, t_FullRecording⟩
  er_TellsTooMuch := ⟨PySem.W.mg_of X G a_TellsTooMuch, x_TellsTooMuch, k_TellsTooMuch, b_TellsTooMuch, t_TellsTooMuch⟩
  ex_NotWhole_NotWhole := exm_pair b_NotWhole i_NotWhole t_NotWhole s_NotWhole_NotWhole
  ex_NotWhole_NoDeeds := exm_pair b_NoDeeds i_NoDeeds t_NoDeeds s_NotWhole_NoDeeds
  ex_NotWhole_NotOnlyRounds := exm_pair b_NotOnlyRounds i_NotOnlyRounds t_NotOnlyRounds s_NotWhole_NotOnlyRounds
  ex_NotWhole_FullRecording := exm_pair b_FullRecording i_FullRecording t_FullRecording s_NotWhole_FullRecording
  ex_NotWhole_TellsTooMuch := exm_pair b_TellsTooMuch i_TellsTooMuch t_TellsTooMuch s_NotWhole_TellsTooMuch
  ex_NoDeeds_NotWhole := exm_pair b_NotWhole i_NotWhole t_NotWhole s_NoDeeds_NotWhole
  ex_NoDeeds_NoDeeds := exm_pair b_NoDeeds i_NoDeeds t_NoDeeds s_NoDeeds_NoDeeds
  ex_NoDeeds_NotOnlyRounds := exm_pair b_NotOnlyRounds i_NotOnlyRounds t_NotOnlyRounds s_NoDeeds_NotOnlyRounds
  ex_NoDeeds_FullRecording := exm_pair b_FullRecording i_FullRecording t_FullRecording s_NoDeeds_FullRecording
  ex_NoDeeds_TellsTooMuch := exm_pair b_TellsTooMuch i_TellsTooMuch t_TellsTooMuch s_NoDeeds_TellsTooMuch
  ex_NotOnlyRounds_NotWhole := exm_pair b_NotWhole i_NotWhole t_NotWhole s_NotOnlyRounds_NotWhole
  ex_NotOnlyRounds_NoDeeds := exm_pair b_NoDeeds i_NoDeeds t_NoDeeds s_NotOnlyRounds_NoDeeds
  ex_NotOnlyRounds_NotOnlyRounds := exm_pair b_NotOnlyRounds i_NotOnlyRounds t_NotOnlyRounds s_NotOnlyRounds_NotOnlyRounds
  ex_NotOnlyRounds_FullRecording := exm_pair b_FullRecording i_FullRecording t_FullRecording s_NotOnlyRounds_FullRecording
  ex_NotOnlyRounds_TellsTooMuch := exm_pair b_TellsTooMuch i_TellsTooMuch t_TellsTooMuch s_NotOnlyRounds_TellsTooMuch
  ex_FullRecording_NotWhole := exm_pair b_NotWhole i_NotWhole t_NotWhole s_FullRecording_NotWhole
  ex_FullRecording_NoDeeds := exm_pair b_NoDeeds i_NoDeeds t_NoDeeds s_FullRecording_NoDeeds
  ex_FullRecording_NotOnlyRounds := exm_pair b_NotOnlyRounds i_NotOnlyRounds t_NotOnlyRounds s_FullRecording_NotOnlyRounds
  ex_FullRecording_FullRecording := exm_pair b_FullRecording i_FullRecording t_FullRecording s_FullRecording_FullRecording
  ex_FullRecording_TellsTooMuch := exm_pair b_TellsTooMuch i_TellsTooMuch t_TellsTooMuch s_FullRecording_TellsTooMuch
  ex_TellsTooMuch_NotWhole := exm_pair b_NotWhole i_NotWhole t_NotWhole s_TellsTooMuch_NotWhole
  ex_TellsTooMuch_NoDeeds := exm_pair b_NoDeeds i_NoDeeds t_NoDeeds s_TellsTooMuch_NoDeeds
  ex_TellsTooMuch_NotOnlyRounds := exm_pair b_NotOnlyRounds i_NotOnlyRounds t_NotOnlyRounds s_TellsTooMuch_NotOnlyRounds
  ex_TellsTooMuch_FullRecording := exm_pair b_FullRecording i_FullRecording t_FullRecording s_TellsTooMuch_FullRecording
  ex_TellsTooMuch_TellsTooMuch := exm_pair b_TellsTooMuch i_TellsTooMuch t_TellsTooMuch s_TellsTooMuch_TellsTooMuch
  g_Reader := PySem.W.mg_of X G a_Reader
  cl_Reader := ⟨pg_Reader, hd_Reader, po_Reader, sa_Reader⟩
  mk_Reader := ⟨mk_Reader, a_Reader_init, i_Reader_init, kc_Reader⟩
  na_Reader_numbers := n_Reader_numbers
  na_Reader_place := n_Reader_place
  d_Reader_init := ⟨_, fun_mk (st := s_Reader_init) l_Reader_init o_Reader_init k_Reader_init, (fun_mk (st := s_Reader_init) l_Reader_init o_Reader_init k_Reader_init).binds (ps := ["self", "numbers"]) fun _ _ _ _ _ _ us hl => match us, hl with | [_, _], _ => rfl⟩
  d_Reader_take := ⟨_, fun_mk (st := s_Reader_take) l_Reader_take o_Reader_take k_Reader_take, (fun_mk (st := s_Reader_take) l_Reader_take o_Reader_take k_Reader_take).binds (ps := ["self", "lowest", "highest"]) fun _ _ _ _ _ _ us hl => match us, hl with | [_, _, _], _ => rfl⟩
  me_Reader_take := ⟨a_Reader_take, i_Reader_take, k_Reader_take⟩
  d_Reader_finish := ⟨_, fun_mk (st := s_Reader_finish) l_Reader_finish o_Reader_finish k_Reader_finish, (fun_mk (st := s_Reader_finish) l_Reader_finish o_Reader_finish k_Reader_finish).binds (ps := ["self"]) fun _ _ _ _ _ _ us hl => match us, hl with | [_], _ => rfl⟩
  me_Reader_finish := ⟨a_Reader_finish, i_Reader_finish, k_Reader_finish⟩
  g_DeedPiece := PySem.W.mg_of X G a_DeedPiece
  cl_DeedPiece := ⟨pg_DeedPiece, hd_DeedPiece, po_DeedPiece, sa_DeedPiece⟩
  mk_DeedPiece := ⟨mk_DeedPiece, a_DeedPiece_init, i_DeedPiece_init, kc_DeedPiece⟩
  na_DeedPiece_deed := n_DeedPiece_deed
  na_DeedPiece_step := n_DeedPiece_step
  d_DeedPiece_init := ⟨_, fun_mk (st := s_DeedPiece_init) l_DeedPiece_init o_DeedPiece_init k_DeedPiece_init, (fun_mk (st := s_DeedPiece_init) l_DeedPiece_init o_DeedPiece_init k_DeedPiece_init).binds (ps := ["self", "deed", "step"]) fun _ _ _ _ _ _ us hl => match us, hl with | [_, _, _], _ => rfl⟩
  g_LoopPiece := PySem.W.mg_of X G a_LoopPiece
  cl_LoopPiece := ⟨pg_LoopPiece, hd_LoopPiece, po_LoopPiece, sa_LoopPiece⟩
  mk_LoopPiece := ⟨mk_LoopPiece, a_LoopPiece_init, i_LoopPiece_init, kc_LoopPiece⟩
  na_LoopPiece_rounds := n_LoopPiece_rounds
  na_LoopPiece_row := n_LoopPiece_row
  d_LoopPiece_init := ⟨_, fun_mk (st := s_LoopPiece_init) l_LoopPiece_init o_LoopPiece_init k_LoopPiece_init, (fun_mk (st := s_LoopPiece_init) l_LoopPiece_init o_LoopPiece_init k_LoopPiece_init).binds (ps := ["self", "rounds", "row"]) fun _ _ _ _ _ _ us hl => match us, hl with | [_, _, _], _ => rfl⟩
  g_TableBoundPiece := PySem.W.mg_of X G a_TableBoundPiece
  cl_TableBoundPiece := ⟨pg_TableBoundPiece, hd_TableBoundPiece, po_TableBoundPiece, sa_TableBoundPiece⟩
  mk_TableBoundPiece := ⟨mk_TableBoundPiece, a_TableBoundPiece_init, i_TableBoundPiece_init, kc_TableBoundPiece⟩
  na_TableBoundPiece_row := n_TableBoundPiece_row
  d_TableBoundPiece_init := ⟨_, fun_mk (st := s_TableBoundPiece_init) l_TableBoundPiece_init o_TableBoundPiece_init k_TableBoundPiece_init, (fun_mk (st := s_TableBoundPiece_init) l_TableBoundPiece_init o_TableBoundPiece_init k_TableBoundPiece_init).binds (ps := ["self", "row"]) fun _ _ _ _ _ _ us hl => match us, hl with | [_, _], _ => rfl⟩
  g_Stretch := PySem.W.mg_of X G a_Stretch
  cl_Stretch := ⟨pg_Stretch, hd_Stretch, po_Stretch, sa_Stretch⟩
  mk_Stretch := ⟨mk_Stretch, a_Stretch_init, i_Stretch_init, kc_Stretch⟩
  na_Stretch_deeds := n_Stretch_deeds
  na_Stretch_start := n_Stretch_start
  na_Stretch_length := n_Stretch_length
  na_Stretch_rounds := n_Stretch_rounds
  na_Stretch_deep := n_Stretch_deep
  d_Stretch_init := ⟨_, fun_mk (st := s_Stretch_init) l_Stretch_init o_Stretch_init k_Stretch_init, (fun_mk (st := s_Stretch_init) l_Stretch_init o_Stretch_init k_Stretch_init).binds (ps := ["self", "deeds", "start", "length", "rounds", "deep"]) fun _ _ _ _ _ _ us hl => match us, hl with | [_, _, _, _, _, _], _ => rfl⟩
  g_Folded := PySem.W.mg_of X G a_Folded
  cl_Folded := ⟨pg_Folded, hd_Folded, po_Folded, sa_Folded⟩
  mk_Folded := ⟨mk_Folded, a_Folded_init, i_Folded_init, kc_Folded⟩
  na_Folded_ways := n_Folded_ways
  na_Folded_row := n_Folded_row
  na_Folded_pieces := n_Folded_pieces
  na_Folded_width := n_Folded_width
  d_Folded_init := ⟨_, fun_mk (st := s_Folded_init) l_Folded_init o_Folded_init k_Folded_init, (fun_mk (st := s_Folded_init) l_Folded_init o_Folded_init k_Folded_init).binds (ps := ["self", "ways", "row", "pieces", "width"]) fun _ _ _ _ _ _ us hl => match us, hl with | [_, _, _, _, _], _ => rfl⟩
  g_Guess := PySem.W.mg_of X G a_Guess
  cl_Guess := ⟨pg_Guess, hd_Guess, po_Guess, sa_Guess⟩
  mk_Guess := ⟨mk_Guess, a_Guess_init, i_Guess_init, kc_Guess⟩
  na_Guess_period := n_Guess_period
  na_Guess_tail := n_Guess_tail
  na_Guess_deed := n_Guess_deed
  d_Guess_init := ⟨_, fun_mk (st := s_Guess_init) l_Guess_init o_Guess_init k_Guess_init, (fun_mk (st := s_Guess_init) l_Guess_init o_Guess_init k_Guess_init).binds (ps := ["self", "period", "tail", "deed"]) fun _ _ _ _ _ _ us hl => match us, hl with | [_, _, _, _], _ => rfl⟩
  g_Table := PySem.W.mg_of X G a_Table
  cl_Table := ⟨pg_Table, hd_Table, po_Table, sa_Table⟩
  mk_Table := ⟨mk_Table, a_Table_init, i_Table_init, kc_Table⟩
  na_Table_rows := n_Table_rows
  na_Table_cursor := n_Table_cursor
  na_Table_clipboard := n_Table_clipboard
  d_Table_init := ⟨_, fun_mk (st := s_Table_init) l_Table_init o_Table_init k_Table_init, (fun_mk (st := s_Table_init) l_Table_init o_Table_init k_Table_init).binds (ps := ["self", "rows", "cursor", "clipboard"]) fun _ _ _ _ _ _ us hl => match us, hl with | [_, _, _, _], _ => rfl⟩
  g_Recording := PySem.W.mg_of X G a_Recording
  cl_Recording := ⟨pg_Recording, hd_Recording, po_Recording, sa_Recording⟩
  mk_Recording := ⟨mk_Recording, a_Recording_init, i_Recording_init, kc_Recording⟩
  na_Recording_deeds := n_Recording_deeds
  d_Recording_init := ⟨_, fun_mk (st := s_Recording_init) l_Recording_init o_Recording_init k_Recording_init, (fun_mk (st := s_Recording_init) l_Recording_init o_Recording_init k_Recording_init).binds (ps := ["self"]) fun _ _ _ _ _ _ us hl => match us, hl with | [_], _ => rfl⟩
  d_Recording_record := ⟨_, fun_mk (st := s_Recording_record) l_Recording_record o_Recording_record k_Recording_record, (fun_mk (st := s_Recording_record) l_Recording_record o_Recording_record k_Recording_record).binds (ps := ["self", "numbers"]) fun _ _ _ _ _ _ us hl => match us, hl with | [_, _], _ => rfl⟩
  me_Recording_record := ⟨a_Recording_record, i_Recording_record, k_Recording_record⟩
  d_Recording_add := ⟨_, fun_mk (st := s_Recording_add) l_Recording_add o_Recording_add k_Recording_add, (fun_mk (st := s_Recording_add) l_Recording_add o_Recording_add k_Recording_add).binds (ps := ["self", "numbers"]) fun _ _ _ _ _ _ us hl => match us, hl with | [_, _], _ => rfl⟩
  me_Recording_add := ⟨a_Recording_add, i_Recording_add, k_Recording_add⟩
  d_Recording_drop := ⟨_, fun_mk (st := s_Recording_drop) l_Recording_drop o_Recording_drop k_Recording_drop, (fun_mk (st := s_Recording_drop) l_Recording_drop o_Recording_drop k_Recording_drop).binds (ps := ["self"]) fun _ _ _ _ _ _ us hl => match us, hl with | [_], _ => rfl⟩
  me_Recording_drop := ⟨a_Recording_drop, i_Recording_drop, k_Recording_drop⟩
  d_Recording_count := ⟨_, fun_mk (st := s_Recording_count) l_Recording_count o_Recording_count k_Recording_count, (fun_mk (st := s_Recording_count) l_Recording_count o_Recording_count k_Recording_count).binds (ps := ["self"]) fun _ _ _ _ _ _ us hl => match us, hl with | [_], _ => rfl⟩
  me_Recording_count := ⟨a_Recording_count, i_Recording_count, k_Recording_count⟩
  d_Recording_least := ⟨_, fun_mk (st := s_Recording_least) l_Recording_least o_Recording_least k_Recording_least, (fun_mk (st := s_Recording_least) l_Recording_least o_Recording_least k_Recording_least).binds (ps := ["self"]) fun _ _ _ _ _ _ us hl => match us, hl with | [_], _ => rfl⟩
  me_Recording_least := ⟨a_Recording_least, i_Recording_least, k_Recording_least⟩
  d_Recording_is_it := ⟨_, fun_mk (st := s_Recording_is_it) l_Recording_is_it o_Recording_is_it k_Recording_is_it, (fun_mk (st := s_Recording_is_it) l_Recording_is_it o_Recording_is_it k_Recording_is_it).binds (ps := ["self", "numbers"]) fun _ _ _ _ _ _ us hl => match us, hl with | [_, _], _ => rfl⟩
  me_Recording_is_it := ⟨a_Recording_is_it, i_Recording_is_it, k_Recording_is_it⟩
  d_Recording_unroll := ⟨_, fun_mk (st := s_Recording_unroll) l_Recording_unroll o_Recording_unroll k_Recording_unroll, (fun_mk (st := s_Recording_unroll) l_Recording_unroll o_Recording_unroll k_Recording_unroll).binds (ps := ["self", "numbers"]) fun _ _ _ _ _ _ us hl => match us, hl with | [_, _], _ => rfl⟩
  me_Recording_unroll := ⟨a_Recording_unroll, i_Recording_unroll, k_Recording_unroll⟩
  d_Recording_next_one := ⟨_, fun_mk (st := s_Recording_next_one) l_Recording_next_one o_Recording_next_one k_Recording_next_one, (fun_mk (st := s_Recording_next_one) l_Recording_next_one o_Recording_next_one k_Recording_next_one).binds (ps := ["self"]) fun _ _ _ _ _ _ us hl => match us, hl with | [_], _ => rfl⟩
  me_Recording_next_one := ⟨a_Recording_next_one, i_Recording_next_one, k_Recording_next_one⟩
  d_Recording_loops := ⟨_, fun_mk (st := s_Recording_loops) l_Recording_loops o_Recording_loops k_Recording_loops, (fun_mk (st := s_Recording_loops) l_Recording_loops o_Recording_loops k_Recording_loops).binds (ps := ["self"]) fun _ _ _ _ _ _ us hl => match us, hl with | [_], _ => rfl⟩
  me_Recording_loops := ⟨a_Recording_loops, i_Recording_loops, k_Recording_loops⟩
  d_Recording_play := ⟨_, fun_mk (st := s_Recording_play) l_Recording_play o_Recording_play k_Recording_play, (fun_mk (st := s_Recording_play) l_Recording_play o_Recording_play k_Recording_play).binds (ps := ["self", "numbers"]) fun _ _ _ _ _ _ us hl => match us, hl with | [_, _], _ => rfl⟩
  me_Recording_play := ⟨a_Recording_play, i_Recording_play, k_Recording_play⟩
  d_Recording_told := ⟨_, fun_mk (st := s_Recording_told) l_Recording_told o_Recording_told k_Recording_told, (fun_mk (st := s_Recording_told) l_Recording_told o_Recording_told k_Recording_told).binds (ps := ["self"]) fun _ _ _ _ _ _ us hl => match us, hl with | [_], _ => rfl⟩
  me_Recording_told := ⟨a_Recording_told, i_Recording_told, k_Recording_told⟩
  is_DeedPiece := ⟨hm_DeedPiece, ht_DeedPiece, ha_DeedPiece, hn_DeedPiece⟩
  ki_DeedPiece_DeedPiece := q_DeedPiece_DeedPiece
  ki_DeedPiece_LoopPiece := q_DeedPiece_LoopPiece
  ki_DeedPiece_TableBoundPiece := q_DeedPiece_TableBoundPiece
  is_LoopPiece := ⟨hm_LoopPiece, ht_LoopPiece, ha_LoopPiece, hn_LoopPiece⟩
  ki_LoopPiece_DeedPiece := q_LoopPiece_DeedPiece
  ki_LoopPiece_LoopPiece := q_LoopPiece_LoopPiece
  ki_LoopPiece_TableBoundPiece := q_LoopPiece_TableBoundPiece
  is_TableBoundPiece := ⟨hm_TableBoundPiece, ht_TableBoundPiece, ha_TableBoundPiece, hn_TableBoundPiece⟩
  ki_TableBoundPiece_DeedPiece := q_TableBoundPiece_DeedPiece
  ki_TableBoundPiece_LoopPiece := q_TableBoundPiece_LoopPiece
  ki_TableBoundPiece_TableBoundPiece := q_TableBoundPiece_TableBoundPiece
  g_has_number := PySem.W.mg_of X G a_has_number
  d_has_number := ⟨_, fun_mk (st := s_has_number) l_has_number o_has_number k_has_number, (fun_mk (st := s_has_number) l_has_number o_has_number k_has_number).binds (ps := ["deed"]) fun _ _ _ _ _ _ us hl => match us, hl with | [_], _ => rfl⟩
  g_number_of := PySem.W.mg_of X G a_number_of
  d_number_of := ⟨_, fun_mk (st := s_number_of) l_number_of o_number_of k_number_of, (fun_mk (st := s_number_of) l_number_of o_number_of k_number_of).binds (ps := ["deed"]) fun _ _ _ _ _ _ us hl => match us, hl with | [_], _ => rfl⟩
  g_deed_at_round := PySem.W.mg_of X G a_deed_at_round
  d_deed_at_round := ⟨_, fun_mk (st := s_deed_at_round) l_deed_at_round o_deed_at_round k_deed_at_round, (fun_mk (st := s_deed_at_round) l_deed_at_round o_deed_at_round k_deed_at_round).binds (ps := ["deed", "step", "round_number"]) fun _ _ _ _ _ _ us hl => match us, hl with | [_, _, _], _ => rfl⟩
  g_step_between := PySem.W.mg_of X G a_step_between
  d_step_between := ⟨_, fun_mk (st := s_step_between) l_step_between o_step_between k_step_between, (fun_mk (st := s_step_between) l_step_between o_step_between k_step_between).binds (ps := ["first", "second"]) fun _ _ _ _ _ _ us hl => match us, hl with | [_, _], _ => rfl⟩
  g_read_deed := PySem.W.mg_of X G a_read_deed
  d_read_deed := ⟨_, fun_mk (st := s_read_deed) l_read_deed o_read_deed k_read_deed, (fun_mk (st := s_read_deed) l_read_deed o_read_deed k_read_deed).binds (ps := ["reader"]) fun _ _ _ _ _ _ us hl => match us, hl with | [_], _ => rfl⟩
  g_whole_deed := PySem.W.mg_of X G a_whole_deed
  d_whole_deed := ⟨_, fun_mk (st := s_whole_deed) l_whole_deed o_whole_deed k_whole_deed, (fun_mk (st := s_whole_deed) l_whole_deed o_whole_deed k_whole_deed).binds (ps := ["numbers"]) fun _ _ _ _ _ _ us hl => match us, hl with | [_], _ => rfl⟩
  g_whole_deeds := PySem.W.mg_of X G a_whole_deeds
  d_whole_deeds := ⟨_, fun_mk (st := s_whole_deeds) l_whole_deeds o_whole_deeds k_whole_deeds, (fun_mk (st := s_whole_deeds) l_whole_deeds o_whole_deeds k_whole_deeds).binds (ps := ["numbers"]) fun _ _ _ _ _ _ us hl => match us, hl with | [_], _ => rfl⟩
  g_deeds_as_numbers := PySem.W.mg_of X G a_deeds_as_numbers
  d_deeds_as_numbers := ⟨_, fun_mk (st := s_deeds_as_numbers) l_deeds_as_numbers o_deeds_as_numbers k_deeds_as_numbers, (fun_mk (st := s_deeds_as_numbers) l_deeds_as_numbers o_deeds_as_numbers k_deeds_as_numbers).binds (ps := ["deeds"]) fun _ _ _ _ _ _ us hl => match us, hl with | [_], _ => rfl⟩
  g_read_piece := PySem.W.mg_of X G a_read_piece
  d_read_piece := ⟨_, fun_mk (st := s_read_piece) l_read_piece o_read_piece k_read_piece, (fun_mk (st := s_read_piece) l_read_piece o_read_piece k_read_piece).binds (ps := ["reader", "deep"]) fun _ _ _ _ _ _ us hl => match us, hl with | [_, _], _ => rfl⟩
  g_read_row := PySem.W.mg_of X G a_read_row
  d_read_row := ⟨_, fun_mk (st := s_read_row) l_read_row o_read_row k_read_row, (fun_mk (st := s_read_row) l_read_row o_read_row k_read_row).binds (ps := ["reader", "deep"]) fun _ _ _ _ _ _ us hl => match us, hl with | [_, _], _ => rfl⟩
  g_count_pieces := PySem.W.mg_of X G a_count_pieces
  d_count_pieces := ⟨_, fun_mk (st := s_count_pieces) l_count_pieces o_count_pieces k_count_pieces, (fun_mk (st := s_count_pieces) l_count_pieces o_count_pieces k_count_pieces).binds (ps := ["row"]) fun _ _ _ _ _ _ us hl => match us, hl with | [_], _ => rfl⟩
  g_whole_program := PySem.W.mg_of X G a_whole_program
  d_whole_program := ⟨_, fun_mk (st := s_whole_program) l_whole_program o_whole_program k_whole_program, (fun_mk (st := s_whole_program) l_whole_program o_whole_program k_whole_program).binds (ps := ["numbers"]) fun _ _ _ _ _ _ us hl => match us, hl with | [_], _ => rfl⟩
  g_is_table_bound := PySem.W.mg_of X G a_is_table_bound
  d_is_table_bound := ⟨_, fun_mk (st := s_is_table_bound) l_is_table_bound o_is_table_bound k_is_table_bound, (fun_mk (st := s_is_table_bound) l_is_table_bound o_is_table_bound k_is_table_bound).binds (ps := ["row"]) fun _ _ _ _ _ _ us hl => match us, hl with | [_], _ => rfl⟩
  g_tell := PySem.W.mg_of X G a_tell
  d_tell := ⟨_, fun_mk (st := s_tell) l_tell o_tell k_tell, (fun_mk (st := s_tell) l_tell o_tell k_tell).binds (ps := ["row", "round_number"]) fun _ _ _ _ _ _ us hl => match us, hl with | [_, _], _ => rfl⟩
  g_count_told := PySem.W.mg_of X G a_count_told
  d_count_told := ⟨_, fun_mk (st := s_count_told) l_count_told o_count_told k_count_told, (fun_mk (st := s_count_told) l_count_told o_count_told k_count_told).binds (ps := ["row"]) fun _ _ _ _ _ _ us hl => match us, hl with | [_], _ => rfl⟩
  g_told_by := PySem.W.mg_of X G a_told_by
  d_told_by := ⟨_, fun_mk (st := s_told_by) l_told_by o_told_by k_told_by, (fun_mk (st := s_told_by) l_told_by o_told_by k_told_by).binds (ps := ["numbers"]) fun _ _ _ _ _ _ us hl => match us, hl with | [_], _ => rfl⟩
  g_row_as_numbers := PySem.W.mg_of X G a_row_as_numbers
  d_row_as_numbers := ⟨_, fun_mk (st := s_row_as_numbers) l_row_as_numbers o_row_as_numbers k_row_as_numbers, (fun_mk (st := s_row_as_numbers) l_row_as_numbers o_row_as_numbers k_row_as_numbers).binds (ps := ["row"]) fun _ _ _ _ _ _ us hl => match us, hl with | [_], _ => rfl⟩
  g_fold := PySem.W.mg_of X G a_fold
  d_fold := ⟨_, fun_mk (st := s_fold) l_fold o_fold k_fold, (fun_mk (st := s_fold) l_fold o_fold k_fold).binds (ps := ["deeds"]) fun _ _ _ _ _ _ us hl => match us, hl with | [_], _ => rfl⟩
  g_fold_stretch := PySem.W.mg_of X G a_fold_stretch
  d_fold_stretch := ⟨_, fun_mk (st := s_fold_stretch) l_fold_stretch o_fold_stretch k_fold_stretch, (fun_mk (st := s_fold_stretch) l_fold_stretch o_fold_stretch k_fold_stretch).binds (ps := ["stretch"]) fun _ _ _ _ _ _ us hl => match us, hl with | [_], _ => rfl⟩
  g_fold_left := PySem.W.mg_of X G a_fold_left
  d_fold_left := ⟨_, fun_mk (st := s_fold_left) l_fold_left o_fold_left k_fold_left, (fun_mk (st := s_fold_left) l_fold_left o_fold_left k_fold_left).binds (ps := ["firsts", "folded", "left"]) fun _ _ _ _ _ _ us hl => match us, hl with | [_, _, _], _ => rfl⟩
  g_deed_choices := PySem.W.mg_of X G a_deed_choices
  d_deed_choices := ⟨_, fun_mk (st := s_deed_choices) l_deed_choices o_deed_choices k_deed_choices, (fun_mk (st := s_deed_choices) l_deed_choices o_deed_choices k_deed_choices).binds (ps := ["stretch", "place"]) fun _ _ _ _ _ _ us hl => match us, hl with | [_, _], _ => rfl⟩
  g_loop_choices := PySem.W.mg_of X G a_loop_choices
  d_loop_choices := ⟨_, fun_mk (st := s_loop_choices) l_loop_choices o_loop_choices k_loop_choices, (fun_mk (st := s_loop_choices) l_loop_choices o_loop_choices k_loop_choices).binds (ps := ["stretch", "place", "left"]) fun _ _ _ _ _ _ us hl => match us, hl with | [_, _, _], _ => rfl⟩
  g_is_same_each_round := PySem.W.mg_of X G a_is_same_each_round
  d_is_same_each_round := ⟨_, fun_mk (st := s_is_same_each_round) l_is_same_each_round o_is_same_each_round k_is_same_each_round, (fun_mk (st := s_is_same_each_round) l_is_same_each_round o_is_same_each_round k_is_same_each_round).binds (ps := ["stretch", "place", "width"]) fun _ _ _ _ _ _ us hl => match us, hl with | [_, _, _], _ => rfl⟩
  g_most_rounds := PySem.W.mg_of X G a_most_rounds
  d_most_rounds := ⟨_, fun_mk (st := s_most_rounds) l_most_rounds o_most_rounds k_most_rounds, (fun_mk (st := s_most_rounds) l_most_rounds o_most_rounds k_most_rounds).binds (ps := ["deeds", "place", "length"]) fun _ _ _ _ _ _ us hl => match us, hl with | [_, _, _], _ => rfl⟩
  g_plain_loops := PySem.W.mg_of X G a_plain_loops
  d_plain_loops := ⟨_, fun_mk (st := s_plain_loops) l_plain_loops o_plain_loops k_plain_loops, (fun_mk (st := s_plain_loops) l_plain_loops o_plain_loops k_plain_loops).binds (ps := ["deeds"]) fun _ _ _ _ _ _ us hl => match us, hl with | [_], _ => rfl⟩
  g_goes_along := PySem.W.mg_of X G a_goes_along
  d_goes_along := ⟨_, fun_mk (st := s_goes_along) l_goes_along o_goes_along k_goes_along, (fun_mk (st := s_goes_along) l_goes_along o_goes_along k_goes_along).binds (ps := ["deeds", "place", "period"]) fun _ _ _ _ _ _ us hl => match us, hl with | [_, _, _], _ => rfl⟩
  g_tail_of := PySem.W.mg_of X G a_tail_of
  d_tail_of := ⟨_, fun_mk (st := s_tail_of) l_tail_of o_tail_of k_tail_of, (fun_mk (st := s_tail_of) l_tail_of o_tail_of k_tail_of).binds (ps := ["deeds", "period"]) fun _ _ _ _ _ _ us hl => match us, hl with | [_, _], _ => rfl⟩
  g_does_count := PySem.W.mg_of X G a_does_count
  d_does_count := ⟨_, fun_mk (st := s_does_count) l_does_count o_does_count k_does_count, (fun_mk (st := s_does_count) l_does_count o_does_count k_does_count).binds (ps := ["period", "tail"]) fun _ _ _ _ _ _ us hl => match us, hl with | [_, _], _ => rfl⟩
  g_deed_behind := PySem.W.mg_of X G a_deed_behind
  d_deed_behind := ⟨_, fun_mk (st := s_deed_behind) l_deed_behind o_deed_behind k_deed_behind, (fun_mk (st := s_deed_behind) l_deed_behind o_deed_behind k_deed_behind).binds (ps := ["deeds", "period", "tail"]) fun _ _ _ _ _ _ us hl => match us, hl with | [_, _, _], _ => rfl⟩
  g_guess_next := PySem.W.mg_of X G a_guess_next
  d_guess_next := ⟨_, fun_mk (st := s_guess_next) l_guess_next o_guess_next k_guess_next, (fun_mk (st := s_guess_next) l_guess_next o_guess_next k_guess_next).binds (ps := ["deeds"]) fun _ _ _ _ _ _ us hl => match us, hl with | [_], _ => rfl⟩
  g_read_value := PySem.W.mg_of X G a_read_value
  d_read_value := ⟨_, fun_mk (st := s_read_value) l_read_value o_read_value k_read_value, (fun_mk (st := s_read_value) l_read_value o_read_value k_read_value).binds (ps := ["reader"]) fun _ _ _ _ _ _ us hl => match us, hl with | [_], _ => rfl⟩
  g_whole_table := PySem.W.mg_of X G a_whole_table
  d_whole_table := ⟨_, fun_mk (st := s_whole_table) l_whole_table o_whole_table k_whole_table, (fun_mk (st := s_whole_table) l_whole_table o_whole_table k_whole_table).binds (ps := ["numbers"]) fun _ _ _ _ _ _ us hl => match us, hl with | [_], _ => rfl⟩
  g_table_as_numbers := PySem.W.mg_of X G a_table_as_numbers
  d_table_as_numbers := ⟨_, fun_mk (st := s_table_as_numbers) l_table_as_numbers o_table_as_numbers k_table_as_numbers, (fun_mk (st := s_table_as_numbers) l_table_as_numbers o_table_as_numbers k_table_as_numbers).binds (ps := ["table"]) fun _ _ _ _ _ _ us hl => match us, hl with | [_], _ => rfl⟩
  g_found_below := PySem.W.mg_of X G a_found_below
  d_found_below := ⟨_, fun_mk (st := s_found_below) l_found_below o_found_below k_found_below, (fun_mk (st := s_found_below) l_found_below o_found_below k_found_below).binds (ps := ["table", "field", "number"]) fun _ _ _ _ _ _ us hl => match us, hl with | [_, _, _], _ => rfl⟩
  g_new_value := PySem.W.mg_of X G a_new_value
  d_new_value := ⟨_, fun_mk (st := s_new_value) l_new_value o_new_value k_new_value, (fun_mk (st := s_new_value) l_new_value o_new_value k_new_value).binds (ps := ["table", "deed"]) fun _ _ _ _ _ _ us hl => match us, hl with | [_, _], _ => rfl⟩
  g_fault_of := PySem.W.mg_of X G a_fault_of
  d_fault_of := ⟨_, fun_mk (st := s_fault_of) l_fault_of o_fault_of k_fault_of, (fun_mk (st := s_fault_of) l_fault_of o_fault_of k_fault_of).binds (ps := ["table", "deed"]) fun _ _ _ _ _ _ us hl => match us, hl with | [_, _], _ => rfl⟩
  g_do_deed := PySem.W.mg_of X G a_do_deed
  d_do_deed := ⟨_, fun_mk (st := s_do_deed) l_do_deed o_do_deed k_do_deed, (fun_mk (st := s_do_deed) l_do_deed o_do_deed k_do_deed).binds (ps := ["table", "deed"]) fun _ _ _ _ _ _ us hl => match us, hl with | [_, _], _ => rfl⟩
  g_run_deeds := PySem.W.mg_of X G a_run_deeds
  d_run_deeds := ⟨_, fun_mk (st := s_run_deeds) l_run_deeds o_run_deeds k_run_deeds, (fun_mk (st := s_run_deeds) l_run_deeds o_run_deeds k_run_deeds).binds (ps := ["table", "deeds"]) fun _ _ _ _ _ _ us hl => match us, hl with | [_, _], _ => rfl⟩
  g_compare := PySem.W.mg_of X G a_compare
  d_compare := ⟨_, fun_mk (st := s_compare) l_compare o_compare k_compare, (fun_mk (st := s_compare) l_compare o_compare k_compare).binds (ps := ["told", "deeds"]) fun _ _ _ _ _ _ us hl => match us, hl with | [_, _], _ => rfl⟩
  g_do_call := PySem.W.mg_of X G a_do_call
  d_do_call := ⟨_, fun_mk (st := s_do_call) l_do_call o_do_call k_do_call, (fun_mk (st := s_do_call) l_do_call o_do_call k_do_call).binds (ps := ["recording", "call", "numbers"]) fun _ _ _ _ _ _ us hl => match us, hl with | [_, _, _], _ => rfl⟩
  g_answer := PySem.W.mg_of X G a_answer
  d_answer := ⟨_, fun_mk (st := s_answer) l_answer o_answer k_answer, (fun_mk (st := s_answer) l_answer o_answer k_answer).binds (ps := ["recording", "call", "numbers"]) fun _ _ _ _ _ _ us hl => match us, hl with | [_, _, _], _ => rfl⟩
  g_answers := PySem.W.mg_of X G a_answers
  d_answers := ⟨_, fun_mk (st := s_answers) l_answers o_answers k_answers, (fun_mk (st := s_answers) l_answers o_answers k_answers).binds (ps := ["calls"]) fun _ _ _ _ _ _ us hl => match us, hl with | [_], _ => rfl⟩
  i_DOWN := ⟨_, PySem.W.mg_of X G a_DOWN⟩
  i_UP := ⟨_, PySem.W.mg_of X G a_UP⟩
  i_TOP := ⟨_, PySem.W.mg_of X G a_TOP⟩
  i_WRITE := ⟨_, PySem.W.mg_of X G a_WRITE⟩
  i_ADD_deeds := ⟨_, PySem.W.mg_of X G a_ADD_deeds⟩
  i_COPY := ⟨_, PySem.W.mg_of X G a_COPY⟩
  i_PASTE := ⟨_, PySem.W.mg_of X G a_PASTE⟩
  i_DELETE := ⟨_, PySem.W.mg_of X G a_DELETE⟩
  i_DOUBLE := ⟨_, PySem.W.mg_of X G a_DOUBLE⟩
  i_FIND := ⟨_, PySem.W.mg_of X G a_FIND⟩
  g_KINDS_WITH_FIELD := PySem.W.mg_of X G a_KINDS_WITH_FIELD
  v_KINDS_WITH_FIELD := fun H => .inr ⟨_, _, _, l_KINDS_WITH_FIELD, rfl, rfl, by show 5 ≤ sizeLine; decide, (.cons ⟨_, rfl⟩ (.cons ⟨_, rfl⟩ (.cons ⟨_, rfl⟩ (.cons ⟨_, rfl⟩ (.cons ⟨_, rfl⟩ .nil)))))⟩
  g_KINDS_WITH_NUMBER := PySem.W.mg_of X G a_KINDS_WITH_NUMBER
  v_KINDS_WITH_NUMBER := fun H => .inr ⟨_, _, _, l_KINDS_WITH_NUMBER, rfl, rfl, by show 3 ≤ sizeLine; decide, (.cons ⟨_, rfl⟩ (.cons ⟨_, rfl⟩ (.cons ⟨_, rfl⟩ .nil)))⟩
  i_LAST_FIELD := ⟨_, PySem.W.mg_of X G a_LAST_FIELD⟩
  i_MOST_NUMBER := ⟨_, PySem.W.mg_of X G a_MOST_NUMBER⟩
  i_MOST_DEEDS := ⟨_, PySem.W.mg_of X G a_MOST_DEEDS⟩
  i_DEED := ⟨_, PySem.W.mg_of X G a_DEED⟩
  i_LOOP := ⟨_, PySem.W.mg_of X G a_LOOP⟩
  i_PART := ⟨_, PySem.W.mg_of X G a_PART⟩
  i_MOST_ROUNDS := ⟨_, PySem.W.mg_of X G a_MOST_ROUNDS⟩
  i_MOST_PIECES := ⟨_, PySem.W.mg_of X G a_MOST_PIECES⟩
  i_MOST_DEEP := ⟨_, PySem.W.mg_of X G a_MOST_DEEP⟩
  i_MOST_TOLD := ⟨_, PySem.W.mg_of X G a_MOST_TOLD⟩
  i_MOST_LOOPS_DEEP := ⟨_, PySem.W.mg_of X G a_MOST_LOOPS_DEEP⟩
  i_MOST_ROWS := ⟨_, PySem.W.mg_of X G a_MOST_ROWS⟩
  i_WELL := ⟨_, PySem.W.mg_of X G a_WELL⟩
  i_NO_ROW_HERE := ⟨_, PySem.W.mg_of X G a_NO_ROW_HERE⟩
  i_AT_ROW_0 := ⟨_, PySem.W.mg_of X G a_AT_ROW_0⟩
  i_BEYOND_999 := ⟨_, PySem.W.mg_of X G a_BEYOND_999⟩
  i_ROWS_FULL := ⟨_, PySem.W.mg_of X G a_ROWS_FULL⟩
  i_NONE_FOUND := ⟨_, PySem.W.mg_of X G a_NONE_FOUND⟩
  i_RECORD := ⟨_, PySem.W.mg_of X G a_RECORD⟩
  i_ADD_recording := ⟨_, PySem.W.mg_of X G a_ADD_recording⟩
  i_DROP := ⟨_, PySem.W.mg_of X G a_DROP⟩
  i_COUNT := ⟨_, PySem.W.mg_of X G a_COUNT⟩
  i_LEAST := ⟨_, PySem.W.mg_of X G a_LEAST⟩
  i_IS_IT := ⟨_, PySem.W.mg_of X G a_IS_IT⟩
  i_UNROLL := ⟨_, PySem.W.mg_of X G a_UNROLL⟩
  i_NEXT_ONE := ⟨_, PySem.W.mg_of X G a_NEXT_ONE⟩
  i_LOOPS := ⟨_, PySem.W.mg_of X G a_LOOPS⟩
  i_PLAY := ⟨_, PySem.W.mg_of X G a_PLAY⟩
  z_abs := PySem.W.mg_none_of X G z_abs
  z_isinstance := PySem.W.mg_none_of X G z_isinstance
  z_len := PySem.W.mg_none_of X G z_len
  z_list := PySem.W.mg_none_of X G z_list
  z_min := PySem.W.mg_none_of X G z_min
  z_range := PySem.W.mg_none_of X G z_range
  }
theorem all_mk {P : Program} {w : World} {fa : Addr} {K : PySem.W.Frag} {h : Heap} {mg : Str → Option Value} {c_NotWhole c_NoDeeds c_NotOnlyRounds c_FullRecording c_TellsTooMuch c_Reader c_DeedPiece c_LoopPiece c_TableBoundPiece c_Stretch c_Folded c_Guess c_Table c_Recording f_Reader_init f_Reader_take f_Reader_finish f_has_number f_number_of f_deed_at_round f_step_between f_read_deed f_whole_deed f_whole_deeds f_deeds_as_numbers f_DeedPiece_init f_LoopPiece_init f_TableBoundPiece_init f_read_piece f_read_row f_count_pieces f_whole_program f_is_table_bound f_tell f_count_told f_told_by f_row_as_numbers f_Stretch_init f_Folded_init f_fold f_fold_stretch f_fold_left f_deed_choices f_loop_choices f_is_same_each_round f_most_rounds f_plain_loops f_Guess_init f_goes_along f_tail_of f_does_count f_deed_behind f_guess_next f_Table_init f_read_value f_whole_table f_table_as_numbers f_found_below f_new_value f_fault_of f_do_deed f_run_deeds f_Recording_init f_Recording_record f_Recording_add f_Recording_drop f_Recording_count f_Recording_least f_Recording_is_it f_Recording_unroll f_Recording_next_one f_Recording_loops f_Recording_play f_Recording_told f_compare f_do_call f_answer f_answers t_KINDS_WITH_FIELD t_KINDS_WITH_NUMBER : Addr} (X : K.In h) (G : h.Ns mainGlobals mg) (hfa : mg "answers" = some (.ref fa))
    {od_Reader_init an_Reader_init : Option Addr} {sl_Reader_init : Array (Option Value)} {oc_Reader_init kV_Reader_init dc_Reader_init pm_Reader_init cd_Reader_init ct_Reader_init : Value}
    {od_Reader_take an_Reader_take : Option Addr} {sl_Reader_take : Array (Option Value)} {oc_Reader_take kV_Reader_take dc_Reader_take pm_Reader_take cd_Reader_take ct_Reader_take : Value}
    {od_Reader_finish an_Reader_finish : Option Addr} {sl_Reader_finish : Array (Option Value)} {oc_Reader_finish kV_Reader_finish dc_Reader_finish pm_Reader_finish cd_Reader_finish ct_Reader_finish : Value}
    {od_DeedPiece_init an_DeedPiece_init : Option Addr} {sl_DeedPiece_init : Array (Option Value)} {oc_DeedPiece_init kV_DeedPiece_init dc_DeedPiece_init pm_DeedPiece_init cd_DeedPiece_init ct_DeedPiece_init : Value}
    {od_LoopPiece_init an_LoopPiece_init : Option Addr} {sl_LoopPiece_init : Array (Option Value)} {oc_LoopPiece_init kV_LoopPiece_init dc_LoopPiece_init pm_LoopPiece_init cd_LoopPiece_init ct_LoopPiece_init : Value}
    {od_TableBoundPiece_init an_TableBoundPiece_init : Option Addr} {sl_TableBoundPiece_init : Array (Option Value)} {oc_TableBoundPiece_init kV_TableBoundPiece_init dc_TableBoundPiece_init pm_TableBoundPiece_init cd_TableBoundPiece_init ct_TableBoundPiece_init : Value}
    {od_Stretch_init an_Stretch_init : Option Addr} {sl_Stretch_init : Array (Option Value)} {oc_Stretch_init kV_Stretch_init dc_Stretch_init pm_Stretch_init cd_Stretch_init ct_Stretch_init : Value}
    {od_Folded_init an_Folded_init : Option Addr} {sl_Folded_init : Array (Option Value)} {oc_Folded_init kV_Folded_init dc_Folded_init pm_Folded_init cd_Folded_init ct_Folded_init : Value}
    {od_Guess_init an_Guess_init : Option Addr} {sl_Guess_init : Array (Option Value)} {oc_Guess_init kV_Guess_init dc_Guess_init pm_Guess_init cd_Guess_init ct_Guess_init : Value}
    {od_Table_init an_Table_init : Option Addr} {sl_Table_init : Array (Option Value)} {oc_Table_init kV_Table_init dc_Table_init pm_Table_init cd_Table_init ct_Table_init : Value}
    {od_Recording_init an_Recording_init : Option Addr} {sl_Recording_init : Array (Option Value)} {oc_Recording_init kV_Recording_init dc_Recording_init pm_Recording_init cd_Recording_init ct_Recording_init : Value}
    {od_Recording_record an_Recording_record : Option Addr} {sl_Recording_record : Array (Option Value)} {oc_Recording_record kV_Recording_record dc_Recording_record pm_Recording_record cd_Recording_record ct_Recording_record : Value}
    {od_Recording_add an_Recording_add : Option Addr} {sl_Recording_add : Array (Option Value)} {oc_Recording_add kV_Recording_add dc_Recording_add pm_Recording_add cd_Recording_add ct_Recording_add : Value}
    {od_Recording_drop an_Recording_drop : Option Addr} {sl_Recording_drop : Array (Option Value)} {oc_Recording_drop kV_Recording_drop dc_Recording_drop pm_Recording_drop cd_Recording_drop ct_Recording_drop : Value}
    {od_Recording_count an_Recording_count : Option Addr} {sl_Recording_count : Array (Option Value)} {oc_Recording_count kV_Recording_count dc_Recording_count pm_Recording_count cd_Recording_count ct_Recording_count : Value}
    {od_Recording_least an_Recording_least : Option Addr} {sl_Recording_least : Array (Option Value)} {oc_Recording_least kV_Recording_least dc_Recording_least pm_Recording_least cd_Recording_least ct_Recording_least : Value}
    {od_Recording_is_it an_Recording_is_it : Option Addr} {sl_Recording_is_it : Array (Option Value)} {oc_Recording_is_it kV_Recording_is_it dc_Recording_is_it pm_Recording_is_it cd_Recording_is_it ct_Recording_is_it : Value}
    {od_Recording_unroll an_Recording_unroll : Option Addr} {sl_Recording_unroll : Array (Option Value)} {oc_Recording_unroll kV_Recording_unroll dc_Recording_unroll pm_Recording_unroll cd_Recording_unroll ct_Recording_unroll : Value}
    {od_Recording_next_one an_Recording_next_one : Option Addr} {sl_Recording_next_one : Array (Option Value)} {oc_Recording_next_one kV_Recording_next_one dc_Recording_next_one pm_Recording_next_one cd_Recording_next_one ct_Recording_next_one : Value}
    {od_Recording_loops an_Recording_loops : Option Addr} {sl_Recording_loops : Array (Option Value)} {oc_Recording_loops kV_Recording_loops dc_Recording_loops pm_Recording_loops cd_Recording_loops ct_Recording_loops : Value}
    {od_Recording_play an_Recording_play : Option Addr} {sl_Recording_play : Array (Option Value)} {oc_Recording_play kV_Recording_play dc_Recording_play pm_Recording_play cd_Recording_play ct_Recording_play : Value}
    {od_Recording_told an_Recording_told : Option Addr} {sl_Recording_told : Array (Option Value)} {oc_Recording_told kV_Recording_told dc_Recording_told pm_Recording_told cd_Recording_told ct_Recording_told : Value}
    {od_has_number an_has_number : Option Addr} {sl_has_number : Array (Option Value)} {oc_has_number kV_has_number dc_has_number pm_has_number cd_has_number ct_has_number : Value}
    {od_number_of an_number_of : Option Addr} {sl_number_of : Array (Option Value)} {oc_number_of kV_number_of dc_number_of pm_number_of cd_number_of ct_number_of : Value}
    {od_deed_at_round an_deed_at_round : Option Addr} {sl_deed_at_round : Array (Option Value)} {oc_deed_at_round kV_deed_at_round dc_deed_at_round pm_deed_at_round cd_deed_at_round ct_deed_at_round : Value}
    {od_step_between an_step_between : Option Addr} {sl_step_between : Array (Option Value)} {oc_step_between kV_step_between dc_step_between pm_step_between cd_step_between ct_step_between : Value}
    {od_read_deed an_read_deed : Option Addr} {sl_read_deed : Array (Option Value)} {oc_read_deed kV_read_deed dc_read_deed pm_read_deed cd_read_deed ct_read_deed : Value}
    {od_whole_deed an_whole_deed : Option Addr} {sl_whole_deed : Array (Option Value)} {oc_whole_deed kV_whole_deed dc_whole_deed pm_whole_deed cd_whole_deed ct_whole_deed : Value}
    {od_whole_deeds an_whole_deeds : Option Addr} {sl_whole_deeds : Array (Option Value)} {oc_whole_deeds kV_whole_deeds dc_whole_deeds pm_whole_deeds cd_whole_deeds ct_whole_deeds : Value}
    {od_deeds_as_numbers an_deeds_as_numbers : Option Addr} {sl_deeds_as_numbers : Array (Option Value)} {oc_deeds_as_numbers kV_deeds_as_numbers dc_deeds_as_numbers pm_deeds_as_numbers cd_deeds_as_numbers ct_deeds_as_numbers : Value}
    {od_read_piece an_read_piece : Option Addr} {sl_read_piece : Array (Option Value)} {oc_read_piece kV_read_piece dc_read_piece pm_read_piece cd_read_piece ct_read_piece : Value}
    {od_read_row an_read_row : Option Addr} {sl_read_row : Array (Option Value)} {oc_read_row kV_read_row dc_read_row pm_read_row cd_read_row ct_read_row : Value}
    {od_count_pieces an_count_pieces : Option Addr} {sl_count_pieces : Array (Option Value)} {oc_count_pieces kV_count_pieces dc_count_pieces pm_count_pieces cd_count_pieces ct_count_pieces : Value}
    {od_whole_program an_whole_program : Option Addr} {sl_whole_program : Array (Option Value)} {oc_whole_program kV_whole_program dc_whole_program pm_whole_program cd_whole_program ct_whole_program : Value}
    {od_is_table_bound an_is_table_bound : Option Addr} {sl_is_table_bound : Array (Option Value)} {oc_is_table_bound kV_is_table_bound dc_is_table_bound pm_is_table_bound cd_is_table_bound ct_is_table_bound : Value}
    {od_tell an_tell : Option Addr} {sl_tell : Array (Option Value)} {oc_tell kV_tell dc_tell pm_tell cd_tell ct_tell : Value}
    {od_count_told an_count_told : Option Addr} {sl_count_told : Array (Option Value)} {oc_count_told kV_count_told dc_count_told pm_count_told cd_count_told ct_count_told : Value}
    {od_told_by an_told_by : Option Addr} {sl_told_by : Array (Option Value)} {oc_told_by kV_told_by dc_told_by pm_told_by cd_told_by ct_told_by : Value}
    {od_row_as_numbers an_row_as_numbers : Option Addr} {sl_row_as_numbers : Array (Option Value)} {oc_row_as_numbers kV_row_as_numbers dc_row_as_numbers pm_row_as_numbers cd_row_as_numbers ct_row_as_numbers : Value}
    {od_fold an_fold : Option Addr} {sl_fold : Array (Option Value)} {oc_fold kV_fold dc_fold pm_fold cd_fold ct_fold : Value}
    {od_fold_stretch an_fold_stretch : Option Addr} {sl_fold_stretch : Array (Option Value)} {oc_fold_stretch kV_fold_stretch dc_fold_stretch pm_fold_stretch cd_fold_stretch ct_fold_stretch : Value}
    {od_fold_left an_fold_left : Option Addr} {sl_fold_left : Array (Option Value)} {oc_fold_left kV_fold_left dc_fold_left pm_fold_left cd_fold_left ct_fold_left : Value}
    {od_deed_choices an_deed_choices : Option Addr} {sl_deed_choices : Array (Option Value)} {oc_deed_choices kV_deed_choices dc_deed_choices pm_deed_choices cd_deed_choices ct_deed_choices : Value}
    {od_loop_choices an_loop_choices : Option Addr} {sl_loop_choices : Array (Option Value)} {oc_loop_choices kV_loop_choices dc_loop_choices pm_loop_choices cd_loop_choices ct_loop_choices : Value}
    {od_is_same_each_round an_is_same_each_round : Option Addr} {sl_is_same_each_round : Array (Option Value)} {oc_is_same_each_round kV_is_same_each_round dc_is_same_each_round pm_is_same_each_round cd_is_same_each_round ct_is_same_each_round : Value}
    {od_most_rounds an_most_rounds : Option Addr} {sl_most_rounds : Array (Option Value)} {oc_most_rounds kV_most_rounds dc_most_rounds pm_most_rounds cd_most_rounds ct_most_rounds : Value}
    {od_plain_loops an_plain_loops : Option Addr} {sl_plain_loops : Array (Option Value)} {oc_plain_loops kV_plain_loops dc_plain_loops pm_plain_loops cd_plain_loops ct_plain_loops : Value}
    {od_goes_along an_goes_along : Option Addr} {sl_goes_along : Array (Option Value)} {oc_goes_along kV_goes_along dc_goes_along pm_goes_along cd_goes_along ct_goes_along : Value}
    {od_tail_of an_tail_of : Option Addr} {sl_tail_of : Array (Option Value)} {oc_tail_of kV_tail_of dc_tail_of pm_tail_of cd_tail_of ct_tail_of : Value}
    {od_does_count an_does_count : Option Addr} {sl_does_count : Array (Option Value)} {oc_does_count kV_does_count dc_does_count pm_does_count cd_does_count ct_does_count : Value}
    {od_deed_behind an_deed_behind : Option Addr} {sl_deed_behind : Array (Option Value)} {oc_deed_behind kV_deed_behind dc_deed_behind pm_deed_behind cd_deed_behind ct_deed_behind : Value}
    {od_guess_next an_guess_next : Option Addr} {sl_guess_next : Array (Option Value)} {oc_guess_next kV_guess_next dc_guess_next pm_guess_next cd_guess_next ct_guess_next : Value}
    {od_read_value an_read_value : Option Addr} {sl_read_value : Array (Option Value)} {oc_read_value kV_read_value dc_read_value pm_read_value cd_read_value ct_read_value : Value}
    {od_whole_table an_whole_table : Option Addr} {sl_whole_table : Array (Option Value)} {oc_whole_table kV_whole_table dc_whole_table pm_whole_table cd_whole_table ct_whole_table : Value}
    {od_table_as_numbers an_table_as_numbers : Option Addr} {sl_table_as_numbers : Array (Option Value)} {oc_table_as_numbers kV_table_as_numbers dc_table_as_numbers pm_table_as_numbers cd_table_as_numbers ct_table_as_numbers : Value}
    {od_found_below an_found_below : Option Addr} {sl_found_below : Array (Option Value)} {oc_found_below kV_found_below dc_found_below pm_found_below cd_found_below ct_found_below : Value}
    {od_new_value an_new_value : Option Addr} {sl_new_value : Array (Option Value)} {oc_new_value kV_new_value dc_new_value pm_new_value cd_new_value ct_new_value : Value}
    {od_fault_of an_fault_of : Option Addr} {sl_fault_of : Array (Option Value)} {oc_fault_of kV_fault_of dc_fault_of pm_fault_of cd_fault_of ct_fault_of : Value}
    {od_do_deed an_do_deed : Option Addr} {sl_do_deed : Array (Option Value)} {oc_do_deed kV_do_deed dc_do_deed pm_do_deed cd_do_deed ct_do_deed : Value}
    {od_run_deeds an_run_deeds : Option Addr} {sl_run_deeds : Array (Option Value)} {oc_run_deeds kV_run_deeds dc_run_deeds pm_run_deeds cd_run_deeds ct_run_deeds : Value}
    {od_compare an_compare : Option Addr} {sl_compare : Array (Option Value)} {oc_compare kV_compare dc_compare pm_compare cd_compare ct_compare : Value}
    {od_do_call an_do_call : Option Addr} {sl_do_call : Array (Option Value)} {oc_do_call kV_do_call dc_do_call pm_do_call cd_do_call ct_do_call : Value}
    {od_answer an_answer : Option Addr} {sl_answer : Array (Option Value)} {oc_answer kV_answer dc_answer pm_answer cd_answer ct_answer : Value}
    {od_answers an_answers : Option Addr} {sl_answers : Array (Option Value)} {oc_answers kV_answers dc_answers pm_answers cd_answers ct_answers : Value}
    {tk_DOWN : Tok}
    {tk_UP : Tok}
    {tk_TOP : Tok}
    {tk_WRITE : Tok}
    {tk_ADD_deeds : Tok}
    {tk_COPY : Tok}
    {tk_PASTE : Tok}
    {tk_DELETE : Tok}
    {tk_DOUBLE : Tok}
    {tk_FIND : Tok}
    {tk_KINDS_WITH_FIELD_0 tk_KINDS_WITH_FIELD_1 tk_KINDS_WITH_FIELD_2 tk_KINDS_WITH_FIELD_3 tk_KINDS_WITH_FIELD_4 : Tok} {dd_KINDS_WITH_FIELD : Option Addr} {nn_KINDS_WITH_FIELD : Nat} {sl_KINDS_WITH_FIELD : Array (Option Value)}
    {tk_KINDS_WITH_NUMBER_0 tk_KINDS_WITH_NUMBER_1 tk_KINDS_WITH_NUMBER_2 : Tok} {dd_KINDS_WITH_NUMBER : Option Addr} {nn_KINDS_WITH_NUMBER : Nat} {sl_KINDS_WITH_NUMBER : Array (Option Value)}
    {tk_LAST_FIELD : Tok}
    {tk_MOST_NUMBER : Tok}
    {tk_MOST_DEEDS : Tok}
    {tk_DEED : Tok}
    {tk_LOOP : Tok}
    {tk_PART : Tok}
    {tk_MOST_ROUNDS : Tok}
    {tk_MOST_PIECES : Tok}
    {tk_MOST_DEEP : Tok}
    {tk_MOST_TOLD : Tok}
    {tk_MOST_LOOPS_DEEP : Tok}
    {tk_MOST_ROWS : Tok}
    {tk_WELL : Tok}
    {tk_NO_ROW_HERE : Tok}
    {tk_AT_ROW_0 : Tok}
    {tk_BEYOND_999 : Tok}
    {tk_ROWS_FULL : Tok}
    {tk_NONE_FOUND : Tok}
    {tk_RECORD : Tok}
    {tk_ADD_recording : Tok}
    {tk_DROP : Tok}
    {tk_COUNT : Tok}
    {tk_LEAST : Tok}
    {tk_IS_IT : Tok}
    {tk_UNROLL : Tok}
    {tk_NEXT_ONE : Tok}
    {tk_LOOPS : Tok}
    {tk_PLAY : Tok}
    (a_NotWhole : PySem.W.nsIn K mainGlobals "NotWhole" = some (some (.ref c_NotWhole)))
    (x_NotWhole : PySem.W.excIn K c_NotWhole [.type "Exception", .type "BaseException", .type "object"] "Exception.__new__" = true)
    (k_NotWhole : PySem.W.keepIn K (.ref c_NotWhole) = true)
    (b_NotWhole : PySem.W.subIn K (.ref c_NotWhole) (.type "BaseException") = some true)
    (t_NotWhole : PySem.W.typeIn K (.ref c_NotWhole) = some (.type "type"))
    (i_NotWhole : PySem.W.isClsIn K c_NotWhole = true)
    (a_NoDeeds : PySem.W.nsIn K mainGlobals "NoDeeds" = some (some (.ref c_NoDeeds)))
    (x_NoDeeds : PySem.W.excIn K c_NoDeeds [.type "Exception", .type "BaseException", .type "object"] "Exception.__new__" = true)
    (k_NoDeeds : PySem.W.keepIn K (.ref c_NoDeeds) = true)
    (b_NoDeeds : PySem.W.subIn K (.ref c_NoDeeds) (.type "BaseException") = some true)
    (t_NoDeeds : PySem.W.typeIn K (.ref c_NoDeeds) = some (.type "type"))
    (i_NoDeeds : PySem.W.isClsIn K c_NoDeeds = true)
    (a_NotOnlyRounds : PySem.W.nsIn K mainGlobals "NotOnlyRounds" = some (some (.ref c_NotOnlyRounds)))
    (x_NotOnlyRounds : PySem.W.excIn K c_NotOnlyRounds [.type "Exception", .type "BaseException", .type "object"] "Exception.__new__" = true)
    (k_NotOnlyRounds : PySem.W.keepIn K (.ref c_NotOnlyRounds) = true)
    (b_NotOnlyRounds : PySem.W.subIn K (.ref c_NotOnlyRounds) (.type "BaseException") = some true)
    (t_NotOnlyRounds : PySem.W.typeIn K (.ref c_NotOnlyRounds) = some (.type "type"))
    (i_NotOnlyRounds : PySem.W.isClsIn K c_NotOnlyRounds = true)
    (a_FullRecording : PySem.W.nsIn K mainGlobals "FullRecording" = some (some (.ref c_FullRecording)))
    (x_FullRecording : PySem.W.excIn K c_FullRecording [.type "Exception", .type "BaseException", .type "object"] "Exception.__new__" = true)
    (k_FullRecording : PySem.W.keepIn K (.ref c_FullRecording) = true)
    (b_FullRecording : PySem.W.subIn K (.ref c_FullRecording) (.type "BaseException") = some true)
    (t_FullRecording : PySem.W.typeIn K (.ref c_FullRecording) = some (.type "type"))
    (i_FullRecording : PySem.W.isClsIn K c_FullRecording = true)
    (a_TellsTooMuch : PySem.W.nsIn K mainGlobals "TellsTooMuch" = some (some (.ref c_TellsTooMuch)))
    (x_TellsTooMuch : PySem.W.excIn K c_TellsTooMuch [.type "Exception", .type "BaseException", .type "object"] "Exception.__new__" = true)
    (k_TellsTooMuch : PySem.W.keepIn K (.ref c_TellsTooMuch) = true)
    (b_TellsTooMuch : PySem.W.subIn K (.ref c_TellsTooMuch) (.type "BaseException") = some true)
    (t_TellsTooMuch : PySem.W.typeIn K (.ref c_TellsTooMuch) = some (.type "type"))
    (i_TellsTooMuch : PySem.W.isClsIn K c_TellsTooMuch = true)
    (s_NotWhole_NotWhole : PySem.W.subIn K (.ref c_NotWhole) (.ref c_NotWhole) = some true)
    (s_NotWhole_NoDeeds : PySem.W.subIn K (.ref c_NotWhole) (.ref c_NoDeeds) = some false)
    (s_NotWhole_NotOnlyRounds : PySem.W.subIn K (.ref c_NotWhole) (.ref c_NotOnlyRounds) = some false)
    (s_NotWhole_FullRecording : PySem.W.subIn K (.ref c_NotWhole) (.ref c_FullRecording) = some false)
    (s_NotWhole_TellsTooMuch : PySem.W.subIn K (.ref c_NotWhole) (.ref c_TellsTooMuch) = some false)
    (s_NoDeeds_NotWhole : PySem.W.subIn K (.ref c_NoDeeds) (.ref c_NotWhole) = some false)
    (s_NoDeeds_NoDeeds : PySem.W.subIn K (.ref c_NoDeeds) (.ref c_NoDeeds) = some true)
    (s_NoDeeds_NotOnlyRounds : PySem.W.subIn K (.ref c_NoDeeds) (.ref c_NotOnlyRounds) = some false)
    (s_NoDeeds_FullRecording : PySem.W.subIn K (.ref c_NoDeeds) (.ref c_FullRecording) = some false)
    (s_NoDeeds_TellsTooMuch : PySem.W.subIn K (.ref c_NoDeeds) (.ref c_TellsTooMuch) = some false)
    (s_NotOnlyRounds_NotWhole : PySem.W.subIn K (.ref c_NotOnlyRounds) (.ref c_NotWhole) = some false)
    (s_NotOnlyRounds_NoDeeds : PySem.W.subIn K (.ref c_NotOnlyRounds) (.ref c_NoDeeds) = some false)
    (s_NotOnlyRounds_NotOnlyRounds : PySem.W.subIn K (.ref c_NotOnlyRounds) (.ref c_NotOnlyRounds) = some true)
    (s_NotOnlyRounds_FullRecording : PySem.W.subIn K (.ref c_NotOnlyRounds) (.ref c_FullRecording) = some false)
    (s_NotOnlyRounds_TellsTooMuch : PySem.W.subIn K (.ref c_NotOnlyRounds) (.ref c_TellsTooMuch) = some false)
    (s_FullRecording_NotWhole : PySem.W.subIn K (.ref c_FullRecording) (.ref c_NotWhole) = some false)
    (s_FullRecording_NoDeeds : PySem.W.subIn K (.ref c_FullRecording) (.ref c_NoDeeds) = some false)
    (s_FullRecording_NotOnlyRounds : PySem.W.subIn K (.ref c_FullRecording) (.ref c_NotOnlyRounds) = some false)
    (s_FullRecording_FullRecording : PySem.W.subIn K (.ref c_FullRecording) (.ref c_FullRecording) = some true)
    (s_FullRecording_TellsTooMuch : PySem.W.subIn K (.ref c_FullRecording) (.ref c_TellsTooMuch) = some false)
    (s_TellsTooMuch_NotWhole : PySem.W.subIn K (.ref c_TellsTooMuch) (.ref c_NotWhole) = some false)
    (s_TellsTooMuch_NoDeeds : PySem.W.subIn K (.ref c_TellsTooMuch) (.ref c_NoDeeds) = some false)
    (s_TellsTooMuch_NotOnlyRounds : PySem.W.subIn K (.ref c_TellsTooMuch) (.ref c_NotOnlyRounds) = some false)
    (s_TellsTooMuch_FullRecording : PySem.W.subIn K (.ref c_TellsTooMuch) (.ref c_FullRecording) = some false)
    (s_TellsTooMuch_TellsTooMuch : PySem.W.subIn K (.ref c_TellsTooMuch) (.ref c_TellsTooMuch) = some true)
    (a_Reader : PySem.W.nsIn K mainGlobals "Reader" = some (some (.ref c_Reader)))
    (pg_Reader : PySem.W.plainGet K c_Reader Str.empty = true)
    (hd_Reader : PySem.W.hasDictIn K c_Reader = true)
    (po_Reader : PySem.W.plainOver K c_Reader = true)
    (sa_Reader : PySem.W.findIn K (.ref c_Reader) "__setattr__" = some (some (.builtin "object.__setattr__")))
    (mk_Reader : PySem.W.makesIn K c_Reader = true)
    (kc_Reader : PySem.W.keepIn K (.ref c_Reader) = true)
    (a_Reader_init : PySem.W.findIn K (.ref c_Reader) "__init__" = some (some (.ref f_Reader_init)))
    (i_Reader_init : PySem.W.isFn K (.ref f_Reader_init) = true)
    (n_Reader_numbers : PySem.W.findIn K (.ref c_Reader) "numbers" = some none)
    (n_Reader_place : PySem.W.findIn K (.ref c_Reader) "place" = some none)
    (l_Reader_init : K.lookup f_Reader_init = some ⟨oc_Reader_init, od_Reader_init, .func (PySem.W.fnOf "__init__" "Reader.__init__" (defArgs s_Reader_init) (defBody s_Reader_init) (defScope s_Reader_init) .none kV_Reader_init dc_Reader_init pm_Reader_init an_Reader_init cd_Reader_init ct_Reader_init), sl_Reader_init⟩)
    (o_Reader_init : PySem.W.codeIn K cd_Reader_init "Reader.__init__" = true)
    (k_Reader_init : PySem.W.keepIn K (.ref f_Reader_init) = true)
    (a_Reader_take : PySem.W.findIn K (.ref c_Reader) "take" = some (some (.ref f_Reader_take)))
    (i_Reader_take : PySem.W.isFn K (.ref f_Reader_take) = true)
    (l_Reader_take : K.lookup f_Reader_take = some ⟨oc_Reader_take, od_Reader_take, .func (PySem.W.fnOf "take" "Reader.take" (defArgs s_Reader_take) (defBody s_Reader_take) (defScope s_Reader_take) .none kV_Reader_take dc_Reader_take pm_Reader_take an_Reader_take cd_Reader_take ct_Reader_take), sl_Reader_take⟩)
    (o_Reader_take : PySem.W.codeIn K cd_Reader_take "Reader.take" = true)
    (k_Reader_take : PySem.W.keepIn K (.ref f_Reader_take) = true)
    (a_Reader_finish : PySem.W.findIn K (.ref c_Reader) "finish" = some (some (.ref f_Reader_finish)))
    (i_Reader_finish : PySem.W.isFn K (.ref f_Reader_finish) = true)
    (l_Reader_finish : K.lookup f_Reader_finish = some ⟨oc_Reader_finish, od_Reader_finish, .func (PySem.W.fnOf "finish" "Reader.finish" (defArgs s_Reader_finish) (defBody s_Reader_finish) (defScope s_Reader_finish) .none kV_Reader_finish dc_Reader_finish pm_Reader_finish an_Reader_finish cd_Reader_finish ct_Reader_finish), sl_Reader_finish⟩)
    (o_Reader_finish : PySem.W.codeIn K cd_Reader_finish "Reader.finish" = true)
    (k_Reader_finish : PySem.W.keepIn K (.ref f_Reader_finish) = true)
    (a_DeedPiece : PySem.W.nsIn K mainGlobals "DeedPiece" = some (some (.ref c_DeedPiece)))
    (pg_DeedPiece : PySem.W.plainGet K c_DeedPiece Str.empty = true)
    (hd_DeedPiece : PySem.W.hasDictIn K c_DeedPiece = true)
    (po_DeedPiece : PySem.W.plainOver K c_DeedPiece = true)
    (sa_DeedPiece : PySem.W.findIn K (.ref c_DeedPiece) "__setattr__" = some (some (.builtin "object.__setattr__")))
    (mk_DeedPiece : PySem.W.makesIn K c_DeedPiece = true)
    (kc_DeedPiece : PySem.W.keepIn K (.ref c_DeedPiece) = true)
    (a_DeedPiece_init : PySem.W.findIn K (.ref c_DeedPiece) "__init__" = some (some (.ref f_DeedPiece_init)))
    (i_DeedPiece_init : PySem.W.isFn K (.ref f_DeedPiece_init) = true)
    (n_DeedPiece_deed : PySem.W.findIn K (.ref c_DeedPiece) "deed" = some none)
    (n_DeedPiece_step : PySem.W.findIn K (.ref c_DeedPiece) "step" = some none)
    (l_DeedPiece_init : K.lookup f_DeedPiece_init = some ⟨oc_DeedPiece_init, od_DeedPiece_init, .func (PySem.W.fnOf "__init__" "DeedPiece.__init__" (defArgs s_DeedPiece_init) (defBody s_DeedPiece_init) (defScope s_DeedPiece_init) .none kV_DeedPiece_init dc_DeedPiece_init pm_DeedPiece_init an_DeedPiece_init cd_DeedPiece_init ct_DeedPiece_init), sl_DeedPiece_init⟩)
    (o_DeedPiece_init : PySem.W.codeIn K cd_DeedPiece_init "DeedPiece.__init__" = true)
    (k_DeedPiece_init : PySem.W.keepIn K (.ref f_DeedPiece_init) = true)
    (a_LoopPiece : PySem.W.nsIn K mainGlobals "LoopPiece" = some (some (.ref c_LoopPiece)))
    (pg_LoopPiece : PySem.W.plainGet K c_LoopPiece Str.empty = true)
    (hd_LoopPiece : PySem.W.hasDictIn K c_LoopPiece = true)
    (po_LoopPiece : PySem.W.plainOver K c_LoopPiece = true)
    (sa_LoopPiece : PySem.W.findIn K (.ref c_LoopPiece) "__setattr__" = some (some (.builtin "object.__setattr__")))
    (mk_LoopPiece : PySem.W.makesIn K c_LoopPiece = true)
    (kc_LoopPiece : PySem.W.keepIn K (.ref c_LoopPiece) = true)
    (a_LoopPiece_init : PySem.W.findIn K (.ref c_LoopPiece) "__init__" = some (some (.ref f_LoopPiece_init)))
    (i_LoopPiece_init : PySem.W.isFn K (.ref f_LoopPiece_init) = true)
    (n_LoopPiece_rounds : PySem.W.findIn K (.ref c_LoopPiece) "rounds" = some none)
    (n_LoopPiece_row : PySem.W.findIn K (.ref c_LoopPiece) "row" = some none)
    (l_LoopPiece_init : K.lookup f_LoopPiece_init = some ⟨oc_LoopPiece_init, od_LoopPiece_init, .func (PySem.W.fnOf "__init__" "LoopPiece.__init__" (defArgs s_LoopPiece_init) (defBody s_LoopPiece_init) (defScope s_LoopPiece_init) .none kV_LoopPiece_init dc_LoopPiece_init pm_LoopPiece_init an_LoopPiece_init cd_LoopPiece_init ct_LoopPiece_init), sl_LoopPiece_init⟩)
    (o_LoopPiece_init : PySem.W.codeIn K cd_LoopPiece_init "LoopPiece.__init__" = true)
    (k_LoopPiece_init : PySem.W.keepIn K (.ref f_LoopPiece_init) = true)
    (a_TableBoundPiece : PySem.W.nsIn K mainGlobals "TableBoundPiece" = some (some (.ref c_TableBoundPiece)))
    (pg_TableBoundPiece : PySem.W.plainGet K c_TableBoundPiece Str.empty = true)
    (hd_TableBoundPiece : PySem.W.hasDictIn K c_TableBoundPiece = true)
    (po_TableBoundPiece : PySem.W.plainOver K c_TableBoundPiece = true)
    (sa_TableBoundPiece : PySem.W.findIn K (.ref c_TableBoundPiece) "__setattr__" = some (some (.builtin "object.__setattr__")))
    (mk_TableBoundPiece : PySem.W.makesIn K c_TableBoundPiece = true)
    (kc_TableBoundPiece : PySem.W.keepIn K (.ref c_TableBoundPiece) = true)
    (a_TableBoundPiece_init : PySem.W.findIn K (.ref c_TableBoundPiece) "__init__" = some (some (.ref f_TableBoundPiece_init)))
    (i_TableBoundPiece_init : PySem.W.isFn K (.ref f_TableBoundPiece_init) = true)
    (n_TableBoundPiece_row : PySem.W.findIn K (.ref c_TableBoundPiece) "row" = some none)
    (l_TableBoundPiece_init : K.lookup f_TableBoundPiece_init = some ⟨oc_TableBoundPiece_init, od_TableBoundPiece_init, .func (PySem.W.fnOf "__init__" "TableBoundPiece.__init__" (defArgs s_TableBoundPiece_init) (defBody s_TableBoundPiece_init) (defScope s_TableBoundPiece_init) .none kV_TableBoundPiece_init dc_TableBoundPiece_init pm_TableBoundPiece_init an_TableBoundPiece_init cd_TableBoundPiece_init ct_TableBoundPiece_init), sl_TableBoundPiece_init⟩)
    (o_TableBoundPiece_init : PySem.W.codeIn K cd_TableBoundPiece_init "TableBoundPiece.__init__" = true)
    (k_TableBoundPiece_init : PySem.W.keepIn K (.ref f_TableBoundPiece_init) = true)
    (a_Stretch : PySem.W.nsIn K mainGlobals "Stretch" = some (some (.ref c_Stretch)))
    (pg_Stretch : PySem.W.plainGet K c_Stretch Str.empty = true)
    (hd_Stretch : PySem.W.hasDictIn K c_Stretch = true)
    (po_Stretch : PySem.W.plainOver K c_Stretch = true)
    (sa_Stretch : PySem.W.findIn K (.ref c_Stretch) "__setattr__" = some (some (.builtin "object.__setattr__")))
    (mk_Stretch : PySem.W.makesIn K c_Stretch = true)
    (kc_Stretch : PySem.W.keepIn K (.ref c_Stretch) = true)
    (a_Stretch_init : PySem.W.findIn K (.ref c_Stretch) "__init__" = some (some (.ref f_Stretch_init)))
    (i_Stretch_init : PySem.W.isFn K (.ref f_Stretch_init) = true)
    (n_Stretch_deeds : PySem.W.findIn K (.ref c_Stretch) "deeds" = some none)
    (n_Stretch_start : PySem.W.findIn K (.ref c_Stretch) "start" = some none)
    (n_Stretch_length : PySem.W.findIn K (.ref c_Stretch) "length" = some none)
    (n_Stretch_rounds : PySem.W.findIn K (.ref c_Stretch) "rounds" = some none)
    (n_Stretch_deep : PySem.W.findIn K (.ref c_Stretch) "deep" = some none)
    (l_Stretch_init : K.lookup f_Stretch_init = some ⟨oc_Stretch_init, od_Stretch_init, .func (PySem.W.fnOf "__init__" "Stretch.__init__" (defArgs s_Stretch_init) (defBody s_Stretch_init) (defScope s_Stretch_init) .none kV_Stretch_init dc_Stretch_init pm_Stretch_init an_Stretch_init cd_Stretch_init ct_Stretch_init), sl_Stretch_init⟩)
    (o_Stretch_init : PySem.W.codeIn K cd_Stretch_init "Stretch.__init__" = true)
    (k_Stretch_init : PySem.W.keepIn K (.ref f_Stretch_init) = true)
    (a_Folded : PySem.W.nsIn K mainGlobals "Folded" = some (some (.ref c_Folded)))
    (pg_Folded : PySem.W.plainGet K c_Folded Str.empty = true)
    (hd_Folded : PySem.W.hasDictIn K c_Folded = true)
    (po_Folded : PySem.W.plainOver K c_Folded = true)
    (sa_Folded : PySem.W.findIn K (.ref c_Folded) "__setattr__" = some (some (.builtin "object.__setattr__")))
    (mk_Folded : PySem.W.makesIn K c_Folded = true)
    (kc_Folded : PySem.W.keepIn K (.ref c_Folded) = true)
    (a_Folded_init : PySem.W.findIn K (.ref c_Folded) "__init__" = some (some (.ref f_Folded_init)))
    (i_Folded_init : PySem.W.isFn K (.ref f_Folded_init) = true)
    (n_Folded_ways : PySem.W.findIn K (.ref c_Folded) "ways" = some none)
    (n_Folded_row : PySem.W.findIn K (.ref c_Folded) "row" = some none)
    (n_Folded_pieces : PySem.W.findIn K (.ref c_Folded) "pieces" = some none)
    (n_Folded_width : PySem.W.findIn K (.ref c_Folded) "width" = some none)
    (l_Folded_init : K.lookup f_Folded_init = some ⟨oc_Folded_init, od_Folded_init, .func (PySem.W.fnOf "__init__" "Folded.__init__" (defArgs s_Folded_init) (defBody s_Folded_init) (defScope s_Folded_init) .none kV_Folded_init dc_Folded_init pm_Folded_init an_Folded_init cd_Folded_init ct_Folded_init), sl_Folded_init⟩)
    (o_Folded_init : PySem.W.codeIn K cd_Folded_init "Folded.__init__" = true)
    (k_Folded_init : PySem.W.keepIn K (.ref f_Folded_init) = true)
    (a_Guess : PySem.W.nsIn K mainGlobals "Guess" = some (some (.ref c_Guess)))
    (pg_Guess : PySem.W.plainGet K c_Guess Str.empty = true)
    (hd_Guess : PySem.W.hasDictIn K c_Guess = true)
    (po_Guess : PySem.W.plainOver K c_Guess = true)
    (sa_Guess : PySem.W.findIn K (.ref c_Guess) "__setattr__" = some (some (.builtin "object.__setattr__")))
    (mk_Guess : PySem.W.makesIn K c_Guess = true)
    (kc_Guess : PySem.W.keepIn K (.ref c_Guess) = true)
    (a_Guess_init : PySem.W.findIn K (.ref c_Guess) "__init__" = some (some (.ref f_Guess_init)))
    (i_Guess_init : PySem.W.isFn K (.ref f_Guess_init) = true)
    (n_Guess_period : PySem.W.findIn K (.ref c_Guess) "period" = some none)
    (n_Guess_tail : PySem.W.findIn K (.ref c_Guess) "tail" = some none)
    (n_Guess_deed : PySem.W.findIn K (.ref c_Guess) "deed" = some none)
    (l_Guess_init : K.lookup f_Guess_init = some ⟨oc_Guess_init, od_Guess_init, .func (PySem.W.fnOf "__init__" "Guess.__init__" (defArgs s_Guess_init) (defBody s_Guess_init) (defScope s_Guess_init) .none kV_Guess_init dc_Guess_init pm_Guess_init an_Guess_init cd_Guess_init ct_Guess_init), sl_Guess_init⟩)
    (o_Guess_init : PySem.W.codeIn K cd_Guess_init "Guess.__init__" = true)
    (k_Guess_init : PySem.W.keepIn K (.ref f_Guess_init) = true)
    (a_Table : PySem.W.nsIn K mainGlobals "Table" = some (some (.ref c_Table)))
    (pg_Table : PySem.W.plainGet K c_Table Str.empty = true)
    (hd_Table : PySem.W.hasDictIn K c_Table = true)
    (po_Table : PySem.W.plainOver K c_Table = true)
    (sa_Table : PySem.W.findIn K (.ref c_Table) "__setattr__" = some (some (.builtin "object.__setattr__")))
    (mk_Table : PySem.W.makesIn K c_Table = true)
    (kc_Table : PySem.W.keepIn K (.ref c_Table) = true)
    (a_Table_init : PySem.W.findIn K (.ref c_Table) "__init__" = some (some (.ref f_Table_init)))
    (i_Table_init : PySem.W.isFn K (.ref f_Table_init) = true)
    (n_Table_rows : PySem.W.findIn K (.ref c_Table) "rows" = some none)
    (n_Table_cursor : PySem.W.findIn K (.ref c_Table) "cursor" = some none)
    (n_Table_clipboard : PySem.W.findIn K (.ref c_Table) "clipboard" = some none)
    (l_Table_init : K.lookup f_Table_init = some ⟨oc_Table_init, od_Table_init, .func (PySem.W.fnOf "__init__" "Table.__init__" (defArgs s_Table_init) (defBody s_Table_init) (defScope s_Table_init) .none kV_Table_init dc_Table_init pm_Table_init an_Table_init cd_Table_init ct_Table_init), sl_Table_init⟩)
    (o_Table_init : PySem.W.codeIn K cd_Table_init "Table.__init__" = true)
    (k_Table_init : PySem.W.keepIn K (.ref f_Table_init) = true)
    (a_Recording : PySem.W.nsIn K mainGlobals "Recording" = some (some (.ref c_Recording)))
    (pg_Recording : PySem.W.plainGet K c_Recording Str.empty = true)
    (hd_Recording : PySem.W.hasDictIn K c_Recording = true)
    (po_Recording : PySem.W.plainOver K c_Recording = true)
    (sa_Recording : PySem.W.findIn K (.ref c_Recording) "__setattr__" = some (some (.builtin "object.__setattr__")))
    (mk_Recording : PySem.W.makesIn K c_Recording = true)
    (kc_Recording : PySem.W.keepIn K (.ref c_Recording) = true)
    (a_Recording_init : PySem.W.findIn K (.ref c_Recording) "__init__" = some (some (.ref f_Recording_init)))
    (i_Recording_init : PySem.W.isFn K (.ref f_Recording_init) = true)
    (n_Recording_deeds : PySem.W.findIn K (.ref c_Recording) "deeds" = some none)
    (l_Recording_init : K.lookup f_Recording_init = some ⟨oc_Recording_init, od_Recording_init, .func (PySem.W.fnOf "__init__" "Recording.__init__" (defArgs s_Recording_init) (defBody s_Recording_init) (defScope s_Recording_init) .none kV_Recording_init dc_Recording_init pm_Recording_init an_Recording_init cd_Recording_init ct_Recording_init), sl_Recording_init⟩)
    (o_Recording_init : PySem.W.codeIn K cd_Recording_init "Recording.__init__" = true)
    (k_Recording_init : PySem.W.keepIn K (.ref f_Recording_init) = true)
    (a_Recording_record : PySem.W.findIn K (.ref c_Recording) "record" = some (some (.ref f_Recording_record)))
    (i_Recording_record : PySem.W.isFn K (.ref f_Recording_record) = true)
    (l_Recording_record : K.lookup f_Recording_record = some ⟨oc_Recording_record, od_Recording_record, .func (PySem.W.fnOf "record" "Recording.record" (defArgs s_Recording_record) (defBody s_Recording_record) (defScope s_Recording_record) .none kV_Recording_record dc_Recording_record pm_Recording_record an_Recording_record cd_Recording_record ct_Recording_record), sl_Recording_record⟩)
    (o_Recording_record : PySem.W.codeIn K cd_Recording_record "Recording.record" = true)
    (k_Recording_record : PySem.W.keepIn K (.ref f_Recording_record) = true)
    (a_Recording_add : PySem.W.findIn K (.ref c_Recording) "add" = some (some (.ref f_Recording_add)))
    (i_Recording_add : PySem.W.isFn K (.ref f_Recording_add) = true)
    (l_Recording_add : K.lookup f_Recording_add = some ⟨oc_Recording_add, od_Recording_add, .func (PySem.W.fnOf "add" "Recording.add" (defArgs s_Recording_add) (defBody s_Recording_add) (defScope s_Recording_add) .none kV_Recording_add dc_Recording_add pm_Recording_add an_Recording_add cd_Recording_add ct_Recording_add), sl_Recording_add⟩)
    (o_Recording_add : PySem.W.codeIn K cd_Recording_add "Recording.add" = true)
    (k_Recording_add : PySem.W.keepIn K (.ref f_Recording_add) = true)
    (a_Recording_drop : PySem.W.findIn K (.ref c_Recording) "drop" = some (some (.ref f_Recording_drop)))
    (i_Recording_drop : PySem.W.isFn K (.ref f_Recording_drop) = true)
    (l_Recording_drop : K.lookup f_Recording_drop = some ⟨oc_Recording_drop, od_Recording_drop, .func (PySem.W.fnOf "drop" "Recording.drop" (defArgs s_Recording_drop) (defBody s_Recording_drop) (defScope s_Recording_drop) .none kV_Recording_drop dc_Recording_drop pm_Recording_drop an_Recording_drop cd_Recording_drop ct_Recording_drop), sl_Recording_drop⟩)
    (o_Recording_drop : PySem.W.codeIn K cd_Recording_drop "Recording.drop" = true)
    (k_Recording_drop : PySem.W.keepIn K (.ref f_Recording_drop) = true)
    (a_Recording_count : PySem.W.findIn K (.ref c_Recording) "count" = some (some (.ref f_Recording_count)))
    (i_Recording_count : PySem.W.isFn K (.ref f_Recording_count) = true)
    (l_Recording_count : K.lookup f_Recording_count = some ⟨oc_Recording_count, od_Recording_count, .func (PySem.W.fnOf "count" "Recording.count" (defArgs s_Recording_count) (defBody s_Recording_count) (defScope s_Recording_count) .none kV_Recording_count dc_Recording_count pm_Recording_count an_Recording_count cd_Recording_count ct_Recording_count), sl_Recording_count⟩)
    (o_Recording_count : PySem.W.codeIn K cd_Recording_count "Recording.count" = true)
    (k_Recording_count : PySem.W.keepIn K (.ref f_Recording_count) = true)
    (a_Recording_least : PySem.W.findIn K (.ref c_Recording) "least" = some (some (.ref f_Recording_least)))
    (i_Recording_least : PySem.W.isFn K (.ref f_Recording_least) = true)
    (l_Recording_least : K.lookup f_Recording_least = some ⟨oc_Recording_least, od_Recording_least, .func (PySem.W.fnOf "least" "Recording.least" (defArgs s_Recording_least) (defBody s_Recording_least) (defScope s_Recording_least) .none kV_Recording_least dc_Recording_least pm_Recording_least an_Recording_least cd_Recording_least ct_Recording_least), sl_Recording_least⟩)
    (o_Recording_least : PySem.W.codeIn K cd_Recording_least "Recording.least" = true)
    (k_Recording_least : PySem.W.keepIn K (.ref f_Recording_least) = true)
    (a_Recording_is_it : PySem.W.findIn K (.ref c_Recording) "is_it" = some (some (.ref f_Recording_is_it)))
    (i_Recording_is_it : PySem.W.isFn K (.ref f_Recording_is_it) = true)
    (l_Recording_is_it : K.lookup f_Recording_is_it = some ⟨oc_Recording_is_it, od_Recording_is_it, .func (PySem.W.fnOf "is_it" "Recording.is_it" (defArgs s_Recording_is_it) (defBody s_Recording_is_it) (defScope s_Recording_is_it) .none kV_Recording_is_it dc_Recording_is_it pm_Recording_is_it an_Recording_is_it cd_Recording_is_it ct_Recording_is_it), sl_Recording_is_it⟩)
    (o_Recording_is_it : PySem.W.codeIn K cd_Recording_is_it "Recording.is_it" = true)
    (k_Recording_is_it : PySem.W.keepIn K (.ref f_Recording_is_it) = true)
    (a_Recording_unroll : PySem.W.findIn K (.ref c_Recording) "unroll" = some (some (.ref f_Recording_unroll)))
    (i_Recording_unroll : PySem.W.isFn K (.ref f_Recording_unroll) = true)
    (l_Recording_unroll : K.lookup f_Recording_unroll = some ⟨oc_Recording_unroll, od_Recording_unroll, .func (PySem.W.fnOf "unroll" "Recording.unroll" (defArgs s_Recording_unroll) (defBody s_Recording_unroll) (defScope s_Recording_unroll) .none kV_Recording_unroll dc_Recording_unroll pm_Recording_unroll an_Recording_unroll cd_Recording_unroll ct_Recording_unroll), sl_Recording_unroll⟩)
    (o_Recording_unroll : PySem.W.codeIn K cd_Recording_unroll "Recording.unroll" = true)
    (k_Recording_unroll : PySem.W.keepIn K (.ref f_Recording_unroll) = true)
    (a_Recording_next_one : PySem.W.findIn K (.ref c_Recording) "next_one" = some (some (.ref f_Recording_next_one)))
    (i_Recording_next_one : PySem.W.isFn K (.ref f_Recording_next_one) = true)
    (l_Recording_next_one : K.lookup f_Recording_next_one = some ⟨oc_Recording_next_one, od_Recording_next_one, .func (PySem.W.fnOf "next_one" "Recording.next_one" (defArgs s_Recording_next_one) (defBody s_Recording_next_one) (defScope s_Recording_next_one) .none kV_Recording_next_one dc_Recording_next_one pm_Recording_next_one an_Recording_next_one cd_Recording_next_one ct_Recording_next_one), sl_Recording_next_one⟩)
    (o_Recording_next_one : PySem.W.codeIn K cd_Recording_next_one "Recording.next_one" = true)
    (k_Recording_next_one : PySem.W.keepIn K (.ref f_Recording_next_one) = true)
    (a_Recording_loops : PySem.W.findIn K (.ref c_Recording) "loops" = some (some (.ref f_Recording_loops)))
    (i_Recording_loops : PySem.W.isFn K (.ref f_Recording_loops) = true)
    (l_Recording_loops : K.lookup f_Recording_loops = some ⟨oc_Recording_loops, od_Recording_loops, .func (PySem.W.fnOf "loops" "Recording.loops" (defArgs s_Recording_loops) (defBody s_Recording_loops) (defScope s_Recording_loops) .none kV_Recording_loops dc_Recording_loops pm_Recording_loops an_Recording_loops cd_Recording_loops ct_Recording_loops), sl_Recording_loops⟩)
    (o_Recording_loops : PySem.W.codeIn K cd_Recording_loops "Recording.loops" = true)
    (k_Recording_loops : PySem.W.keepIn K (.ref f_Recording_loops) = true)
    (a_Recording_play : PySem.W.findIn K (.ref c_Recording) "play" = some (some (.ref f_Recording_play)))
    (i_Recording_play : PySem.W.isFn K (.ref f_Recording_play) = true)
    (l_Recording_play : K.lookup f_Recording_play = some ⟨oc_Recording_play, od_Recording_play, .func (PySem.W.fnOf "play" "Recording.play" (defArgs s_Recording_play) (defBody s_Recording_play) (defScope s_Recording_play) .none kV_Recording_play dc_Recording_play pm_Recording_play an_Recording_play cd_Recording_play ct_Recording_play), sl_Recording_play⟩)
    (o_Recording_play : PySem.W.codeIn K cd_Recording_play "Recording.play" = true)
    (k_Recording_play : PySem.W.keepIn K (.ref f_Recording_play) = true)
    (a_Recording_told : PySem.W.findIn K (.ref c_Recording) "told" = some (some (.ref f_Recording_told)))
    (i_Recording_told : PySem.W.isFn K (.ref f_Recording_told) = true)
    (l_Recording_told : K.lookup f_Recording_told = some ⟨oc_Recording_told, od_Recording_told, .func (PySem.W.fnOf "told" "Recording.told" (defArgs s_Recording_told) (defBody s_Recording_told) (defScope s_Recording_told) .none kV_Recording_told dc_Recording_told pm_Recording_told an_Recording_told cd_Recording_told ct_Recording_told), sl_Recording_told⟩)
    (o_Recording_told : PySem.W.codeIn K cd_Recording_told "Recording.told" = true)
    (k_Recording_told : PySem.W.keepIn K (.ref f_Recording_told) = true)
    (ha_DeedPiece : PySem.W.findIn K (.ref c_DeedPiece) "__class__" = some (some (.builtin "object.__class__")))
    (hn_DeedPiece : PySem.W.specialIn K (.builtin "object.__class__") "__get__" = some (some (.builtin "getset_descriptor.__get__")))
    (ht_DeedPiece : PySem.W.takesIn K (.builtin "object.__class__") = some true)
    (hm_DeedPiece : PySem.W.mroIn K c_DeedPiece (.type "object") = some true)
    (q_DeedPiece_DeedPiece : PySem.W.kitOne K (.ref c_DeedPiece) (.ref c_DeedPiece) = some true)
    (q_DeedPiece_LoopPiece : PySem.W.kitOne K (.ref c_DeedPiece) (.ref c_LoopPiece) = some false)
    (q_DeedPiece_TableBoundPiece : PySem.W.kitOne K (.ref c_DeedPiece) (.ref c_TableBoundPiece) = some false)
    (ha_LoopPiece : PySem.W.findIn K (.ref c_LoopPiece) "__class__" = some (some (.builtin "object.__class__")))
    (hn_LoopPiece : PySem.W.specialIn K (.builtin "object.__class__") "__get__" = some (some (.builtin "getset_descriptor.__get__")))
    (ht_LoopPiece : PySem.W.takesIn K (.builtin "object.__class__") = some true)
    (hm_LoopPiece : PySem.W.mroIn K c_LoopPiece (.type "object") = some true)
    (q_LoopPiece_DeedPiece : PySem.W.kitOne K (.ref c_LoopPiece) (.ref c_DeedPiece) = some false)
    (q_LoopPiece_LoopPiece : PySem.W.kitOne K (.ref c_LoopPiece) (.ref c_LoopPiece) = some true)
    (q_LoopPiece_TableBoundPiece : PySem.W.kitOne K (.ref c_LoopPiece) (.ref c_TableBoundPiece) = some false)
    (ha_TableBoundPiece : PySem.W.findIn K (.ref c_TableBoundPiece) "__class__" = some (some (.builtin "object.__class__")))
    (hn_TableBoundPiece : PySem.W.specialIn K (.builtin "object.__class__") "__get__" = some (some (.builtin "getset_descriptor.__get__")))
    (ht_TableBoundPiece : PySem.W.takesIn K (.builtin "object.__class__") = some true)
    (hm_TableBoundPiece : PySem.W.mroIn K c_TableBoundPiece (.type "object") = some true)
    (q_TableBoundPiece_DeedPiece : PySem.W.kitOne K (.ref c_TableBoundPiece) (.ref c_DeedPiece) = some false)
    (q_TableBoundPiece_LoopPiece : PySem.W.kitOne K (.ref c_TableBoundPiece) (.ref c_LoopPiece) = some false)
    (q_TableBoundPiece_TableBoundPiece : PySem.W.kitOne K (.ref c_TableBoundPiece) (.ref c_TableBoundPiece) = some true)
    (a_has_number : PySem.W.nsIn K mainGlobals "has_number" = some (some (.ref f_has_number)))
    (l_has_number : K.lookup f_has_number = some ⟨oc_has_number, od_has_number, .func (PySem.W.fnOf "has_number" "has_number" (defArgs s_has_number) (defBody s_has_number) (defScope s_has_number) .none kV_has_number dc_has_number pm_has_number an_has_number cd_has_number ct_has_number), sl_has_number⟩)
    (o_has_number : PySem.W.codeIn K cd_has_number "has_number" = true)
    (k_has_number : PySem.W.keepIn K (.ref f_has_number) = true)
    (a_number_of : PySem.W.nsIn K mainGlobals "number_of" = some (some (.ref f_number_of)))
    (l_number_of : K.lookup f_number_of = some ⟨oc_number_of, od_number_of, .func (PySem.W.fnOf "number_of" "number_of" (defArgs s_number_of) (defBody s_number_of) (defScope s_number_of) .none kV_number_of dc_number_of pm_number_of an_number_of cd_number_of ct_number_of), sl_number_of⟩)
    (o_number_of : PySem.W.codeIn K cd_number_of "number_of" = true)
    (k_number_of : PySem.W.keepIn K (.ref f_number_of) = true)
    (a_deed_at_round : PySem.W.nsIn K mainGlobals "deed_at_round" = some (some (.ref f_deed_at_round)))
    (l_deed_at_round : K.lookup f_deed_at_round = some ⟨oc_deed_at_round, od_deed_at_round, .func (PySem.W.fnOf "deed_at_round" "deed_at_round" (defArgs s_deed_at_round) (defBody s_deed_at_round) (defScope s_deed_at_round) .none kV_deed_at_round dc_deed_at_round pm_deed_at_round an_deed_at_round cd_deed_at_round ct_deed_at_round), sl_deed_at_round⟩)
    (o_deed_at_round : PySem.W.codeIn K cd_deed_at_round "deed_at_round" = true)
    (k_deed_at_round : PySem.W.keepIn K (.ref f_deed_at_round) = true)
    (a_step_between : PySem.W.nsIn K mainGlobals "step_between" = some (some (.ref f_step_between)))
    (l_step_between : K.lookup f_step_between = some ⟨oc_step_between, od_step_between, .func (PySem.W.fnOf "step_between" "step_between" (defArgs s_step_between) (defBody s_step_between) (defScope s_step_between) .none kV_step_between dc_step_between pm_step_between an_step_between cd_step_between ct_step_between), sl_step_between⟩)
    (o_step_between : PySem.W.codeIn K cd_step_between "step_between" = true)
    (k_step_between : PySem.W.keepIn K (.ref f_step_between) = true)
    (a_read_deed : PySem.W.nsIn K mainGlobals "read_deed" = some (some (.ref f_read_deed)))
    (l_read_deed : K.lookup f_read_deed = some ⟨oc_read_deed, od_read_deed, .func (PySem.W.fnOf "read_deed" "read_deed" (defArgs s_read_deed) (defBody s_read_deed) (defScope s_read_deed) .none kV_read_deed dc_read_deed pm_read_deed an_read_deed cd_read_deed ct_read_deed), sl_read_deed⟩)
    (o_read_deed : PySem.W.codeIn K cd_read_deed "read_deed" = true)
    (k_read_deed : PySem.W.keepIn K (.ref f_read_deed) = true)
    (a_whole_deed : PySem.W.nsIn K mainGlobals "whole_deed" = some (some (.ref f_whole_deed)))
    (l_whole_deed : K.lookup f_whole_deed = some ⟨oc_whole_deed, od_whole_deed, .func (PySem.W.fnOf "whole_deed" "whole_deed" (defArgs s_whole_deed) (defBody s_whole_deed) (defScope s_whole_deed) .none kV_whole_deed dc_whole_deed pm_whole_deed an_whole_deed cd_whole_deed ct_whole_deed), sl_whole_deed⟩)
    (o_whole_deed : PySem.W.codeIn K cd_whole_deed "whole_deed" = true)
    (k_whole_deed : PySem.W.keepIn K (.ref f_whole_deed) = true)
    (a_whole_deeds : PySem.W.nsIn K mainGlobals "whole_deeds" = some (some (.ref f_whole_deeds)))
    (l_whole_deeds : K.lookup f_whole_deeds = some ⟨oc_whole_deeds, od_whole_deeds, .func (PySem.W.fnOf "whole_deeds" "whole_deeds" (defArgs s_whole_deeds) (defBody s_whole_deeds) (defScope s_whole_deeds) .none kV_whole_deeds dc_whole_deeds pm_whole_deeds an_whole_deeds cd_whole_deeds ct_whole_deeds), sl_whole_deeds⟩)
    (o_whole_deeds : PySem.W.codeIn K cd_whole_deeds "whole_deeds" = true)
    (k_whole_deeds : PySem.W.keepIn K (.ref f_whole_deeds) = true)
    (a_deeds_as_numbers : PySem.W.nsIn K mainGlobals "deeds_as_numbers" = some (some (.ref f_deeds_as_numbers)))
    (l_deeds_as_numbers : K.lookup f_deeds_as_numbers = some ⟨oc_deeds_as_numbers, od_deeds_as_numbers, .func (PySem.W.fnOf "deeds_as_numbers" "deeds_as_numbers" (defArgs s_deeds_as_numbers) (defBody s_deeds_as_numbers) (defScope s_deeds_as_numbers) .none kV_deeds_as_numbers dc_deeds_as_numbers pm_deeds_as_numbers an_deeds_as_numbers cd_deeds_as_numbers ct_deeds_as_numbers), sl_deeds_as_numbers⟩)
    (o_deeds_as_numbers : PySem.W.codeIn K cd_deeds_as_numbers "deeds_as_numbers" = true)
    (k_deeds_as_numbers : PySem.W.keepIn K (.ref f_deeds_as_numbers) = true)
    (a_read_piece : PySem.W.nsIn K mainGlobals "read_piece" = some (some (.ref f_read_piece)))
    (l_read_piece : K.lookup f_read_piece = some ⟨oc_read_piece, od_read_piece, .func (PySem.W.fnOf "read_piece" "read_piece" (defArgs s_read_piece) (defBody s_read_piece) (defScope s_read_piece) .none kV_read_piece dc_read_piece pm_read_piece an_read_piece cd_read_piece ct_read_piece), sl_read_piece⟩)
    (o_read_piece : PySem.W.codeIn K cd_read_piece "read_piece" = true)
    (k_read_piece : PySem.W.keepIn K (.ref f_read_piece) = true)
    (a_read_row : PySem.W.nsIn K mainGlobals "read_row" = some (some (.ref f_read_row)))
    (l_read_row : K.lookup f_read_row = some ⟨oc_read_row, od_read_row, .func (PySem.W.fnOf "read_row" "read_row" (defArgs s_read_row) (defBody s_read_row) (defScope s_read_row) .none kV_read_row dc_read_row pm_read_row an_read_row cd_read_row ct_read_row), sl_read_row⟩)
    (o_read_row : PySem.W.codeIn K cd_read_row "read_row" = true)
    (k_read_row : PySem.W.keepIn K (.ref f_read_row) = true)
    (a_count_pieces : PySem.W.nsIn K mainGlobals "count_pieces" = some (some (.ref f_count_pieces)))
    (l_count_pieces : K.lookup f_count_pieces = some ⟨oc_count_pieces, od_count_pieces, .func (PySem.W.fnOf "count_pieces" "count_pieces" (defArgs s_count_pieces) (defBody s_count_pieces) (defScope s_count_pieces) .none kV_count_pieces dc_count_pieces pm_count_pieces an_count_pieces cd_count_pieces ct_count_pieces), sl_count_pieces⟩)
    (o_count_pieces : PySem.W.codeIn K cd_count_pieces "count_pieces" = true)
    (k_count_pieces : PySem.W.keepIn K (.ref f_count_pieces) = true)
    (a_whole_program : PySem.W.nsIn K mainGlobals "whole_program" = some (some (.ref f_whole_program)))
    (l_whole_program : K.lookup f_whole_program = some ⟨oc_whole_program, od_whole_program, .func (PySem.W.fnOf "whole_program" "whole_program" (defArgs s_whole_program) (defBody s_whole_program) (defScope s_whole_program) .none kV_whole_program dc_whole_program pm_whole_program an_whole_program cd_whole_program ct_whole_program), sl_whole_program⟩)
    (o_whole_program : PySem.W.codeIn K cd_whole_program "whole_program" = true)
    (k_whole_program : PySem.W.keepIn K (.ref f_whole_program) = true)
    (a_is_table_bound : PySem.W.nsIn K mainGlobals "is_table_bound" = some (some (.ref f_is_table_bound)))
    (l_is_table_bound : K.lookup f_is_table_bound = some ⟨oc_is_table_bound, od_is_table_bound, .func (PySem.W.fnOf "is_table_bound" "is_table_bound" (defArgs s_is_table_bound) (defBody s_is_table_bound) (defScope s_is_table_bound) .none kV_is_table_bound dc_is_table_bound pm_is_table_bound an_is_table_bound cd_is_table_bound ct_is_table_bound), sl_is_table_bound⟩)
    (o_is_table_bound : PySem.W.codeIn K cd_is_table_bound "is_table_bound" = true)
    (k_is_table_bound : PySem.W.keepIn K (.ref f_is_table_bound) = true)
    (a_tell : PySem.W.nsIn K mainGlobals "tell" = some (some (.ref f_tell)))
    (l_tell : K.lookup f_tell = some ⟨oc_tell, od_tell, .func (PySem.W.fnOf "tell" "tell" (defArgs s_tell) (defBody s_tell) (defScope s_tell) .none kV_tell dc_tell pm_tell an_tell cd_tell ct_tell), sl_tell⟩)
    (o_tell : PySem.W.codeIn K cd_tell "tell" = true)
    (k_tell : PySem.W.keepIn K (.ref f_tell) = true)
    (a_count_told : PySem.W.nsIn K mainGlobals "count_told" = some (some (.ref f_count_told)))
    (l_count_told : K.lookup f_count_told = some ⟨oc_count_told, od_count_told, .func (PySem.W.fnOf "count_told" "count_told" (defArgs s_count_told) (defBody s_count_told) (defScope s_count_told) .none kV_count_told dc_count_told pm_count_told an_count_told cd_count_told ct_count_told), sl_count_told⟩)
    (o_count_told : PySem.W.codeIn K cd_count_told "count_told" = true)
    (k_count_told : PySem.W.keepIn K (.ref f_count_told) = true)
    (a_told_by : PySem.W.nsIn K mainGlobals "told_by" = some (some (.ref f_told_by)))
    (l_told_by : K.lookup f_told_by = some ⟨oc_told_by, od_told_by, .func (PySem.W.fnOf "told_by" "told_by" (defArgs s_told_by) (defBody s_told_by) (defScope s_told_by) .none kV_told_by dc_told_by pm_told_by an_told_by cd_told_by ct_told_by), sl_told_by⟩)
    (o_told_by : PySem.W.codeIn K cd_told_by "told_by" = true)
    (k_told_by : PySem.W.keepIn K (.ref f_told_by) = true)
    (a_row_as_numbers : PySem.W.nsIn K mainGlobals "row_as_numbers" = some (some (.ref f_row_as_numbers)))
    (l_row_as_numbers : K.lookup f_row_as_numbers = some ⟨oc_row_as_numbers, od_row_as_numbers, .func (PySem.W.fnOf "row_as_numbers" "row_as_numbers" (defArgs s_row_as_numbers) (defBody s_row_as_numbers) (defScope s_row_as_numbers) .none kV_row_as_numbers dc_row_as_numbers pm_row_as_numbers an_row_as_numbers cd_row_as_numbers ct_row_as_numbers), sl_row_as_numbers⟩)
    (o_row_as_numbers : PySem.W.codeIn K cd_row_as_numbers "row_as_numbers" = true)
    (k_row_as_numbers : PySem.W.keepIn K (.ref f_row_as_numbers) = true)
    (a_fold : PySem.W.nsIn K mainGlobals "fold" = some (some (.ref f_fold)))
    (l_fold : K.lookup f_fold = some ⟨oc_fold, od_fold, .func (PySem.W.fnOf "fold" "fold" (defArgs s_fold) (defBody s_fold) (defScope s_fold) .none kV_fold dc_fold pm_fold an_fold cd_fold ct_fold), sl_fold⟩)
    (o_fold : PySem.W.codeIn K cd_fold "fold" = true)
    (k_fold : PySem.W.keepIn K (.ref f_fold) = true)
    (a_fold_stretch : PySem.W.nsIn K mainGlobals "fold_stretch" = some (some (.ref f_fold_stretch)))
    (l_fold_stretch : K.lookup f_fold_stretch = some ⟨oc_fold_stretch, od_fold_stretch, .func (PySem.W.fnOf "fold_stretch" "fold_stretch" (defArgs s_fold_stretch) (defBody s_fold_stretch) (defScope s_fold_stretch) .none kV_fold_stretch dc_fold_stretch pm_fold_stretch an_fold_stretch cd_fold_stretch ct_fold_stretch), sl_fold_stretch⟩)
    (o_fold_stretch : PySem.W.codeIn K cd_fold_stretch "fold_stretch" = true)
    (k_fold_stretch : PySem.W.keepIn K (.ref f_fold_stretch) = true)
    (a_fold_left : PySem.W.nsIn K mainGlobals "fold_left" = some (some (.ref f_fold_left)))
    (l_fold_left : K.lookup f_fold_left = some ⟨oc_fold_left, od_fold_left, .func (PySem.W.fnOf "fold_left" "fold_left" (defArgs s_fold_left) (defBody s_fold_left) (defScope s_fold_left) .none kV_fold_left dc_fold_left pm_fold_left an_fold_left cd_fold_left ct_fold_left), sl_fold_left⟩)
    (o_fold_left : PySem.W.codeIn K cd_fold_left "fold_left" = true)
    (k_fold_left : PySem.W.keepIn K (.ref f_fold_left) = true)
    (a_deed_choices : PySem.W.nsIn K mainGlobals "deed_choices" = some (some (.ref f_deed_choices)))
    (l_deed_choices : K.lookup f_deed_choices = some ⟨oc_deed_choices, od_deed_choices, .func (PySem.W.fnOf "deed_choices" "deed_choices" (defArgs s_deed_choices) (defBody s_deed_choices) (defScope s_deed_choices) .none kV_deed_choices dc_deed_choices pm_deed_choices an_deed_choices cd_deed_choices ct_deed_choices), sl_deed_choices⟩)
    (o_deed_choices : PySem.W.codeIn K cd_deed_choices "deed_choices" = true)
    (k_deed_choices : PySem.W.keepIn K (.ref f_deed_choices) = true)
    (a_loop_choices : PySem.W.nsIn K mainGlobals "loop_choices" = some (some (.ref f_loop_choices)))
    (l_loop_choices : K.lookup f_loop_choices = some ⟨oc_loop_choices, od_loop_choices, .func (PySem.W.fnOf "loop_choices" "loop_choices" (defArgs s_loop_choices) (defBody s_loop_choices) (defScope s_loop_choices) .none kV_loop_choices dc_loop_choices pm_loop_choices an_loop_choices cd_loop_choices ct_loop_choices), sl_loop_choices⟩)
    (o_loop_choices : PySem.W.codeIn K cd_loop_choices "loop_choices" = true)
    (k_loop_choices : PySem.W.keepIn K (.ref f_loop_choices) = true)
    (a_is_same_each_round : PySem.W.nsIn K mainGlobals "is_same_each_round" = some (some (.ref f_is_same_each_round)))
    (l_is_same_each_round : K.lookup f_is_same_each_round = some ⟨oc_is_same_each_round, od_is_same_each_round, .func (PySem.W.fnOf "is_same_each_round" "is_same_each_round" (defArgs s_is_same_each_round) (defBody s_is_same_each_round) (defScope s_is_same_each_round) .none kV_is_same_each_round dc_is_same_each_round pm_is_same_each_round an_is_same_each_round cd_is_same_each_round ct_is_same_each_round), sl_is_same_each_round⟩)
    (o_is_same_each_round : PySem.W.codeIn K cd_is_same_each_round "is_same_each_round" = true)
    (k_is_same_each_round : PySem.W.keepIn K (.ref f_is_same_each_round) = true)
    (a_most_rounds : PySem.W.nsIn K mainGlobals "most_rounds" = some (some (.ref f_most_rounds)))
    (l_most_rounds : K.lookup f_most_rounds = some ⟨oc_most_rounds, od_most_rounds, .func (PySem.W.fnOf "most_rounds" "most_rounds" (defArgs s_most_rounds) (defBody s_most_rounds) (defScope s_most_rounds) .none kV_most_rounds dc_most_rounds pm_most_rounds an_most_rounds cd_most_rounds ct_most_rounds), sl_most_rounds⟩)
    (o_most_rounds : PySem.W.codeIn K cd_most_rounds "most_rounds" = true)
    (k_most_rounds : PySem.W.keepIn K (.ref f_most_rounds) = true)
    (a_plain_loops : PySem.W.nsIn K mainGlobals "plain_loops" = some (some (.ref f_plain_loops)))
    (l_plain_loops : K.lookup f_plain_loops = some ⟨oc_plain_loops, od_plain_loops, .func (PySem.W.fnOf "plain_loops" "plain_loops" (defArgs s_plain_loops) (defBody s_plain_loops) (defScope s_plain_loops) .none kV_plain_loops dc_plain_loops pm_plain_loops an_plain_loops cd_plain_loops ct_plain_loops), sl_plain_loops⟩)
    (o_plain_loops : PySem.W.codeIn K cd_plain_loops "plain_loops" = true)
    (k_plain_loops : PySem.W.keepIn K (.ref f_plain_loops) = true)
    (a_goes_along : PySem.W.nsIn K mainGlobals "goes_along" = some (some (.ref f_goes_along)))
    (l_goes_along : K.lookup f_goes_along = some ⟨oc_goes_along, od_goes_along, .func (PySem.W.fnOf "goes_along" "goes_along" (defArgs s_goes_along) (defBody s_goes_along) (defScope s_goes_along) .none kV_goes_along dc_goes_along pm_goes_along an_goes_along cd_goes_along ct_goes_along), sl_goes_along⟩)
    (o_goes_along : PySem.W.codeIn K cd_goes_along "goes_along" = true)
    (k_goes_along : PySem.W.keepIn K (.ref f_goes_along) = true)
    (a_tail_of : PySem.W.nsIn K mainGlobals "tail_of" = some (some (.ref f_tail_of)))
    (l_tail_of : K.lookup f_tail_of = some ⟨oc_tail_of, od_tail_of, .func (PySem.W.fnOf "tail_of" "tail_of" (defArgs s_tail_of) (defBody s_tail_of) (defScope s_tail_of) .none kV_tail_of dc_tail_of pm_tail_of an_tail_of cd_tail_of ct_tail_of), sl_tail_of⟩)
    (o_tail_of : PySem.W.codeIn K cd_tail_of "tail_of" = true)
    (k_tail_of : PySem.W.keepIn K (.ref f_tail_of) = true)
    (a_does_count : PySem.W.nsIn K mainGlobals "does_count" = some (some (.ref f_does_count)))
    (l_does_count : K.lookup f_does_count = some ⟨oc_does_count, od_does_count, .func (PySem.W.fnOf "does_count" "does_count" (defArgs s_does_count) (defBody s_does_count) (defScope s_does_count) .none kV_does_count dc_does_count pm_does_count an_does_count cd_does_count ct_does_count), sl_does_count⟩)
    (o_does_count : PySem.W.codeIn K cd_does_count "does_count" = true)
    (k_does_count : PySem.W.keepIn K (.ref f_does_count) = true)
    (a_deed_behind : PySem.W.nsIn K mainGlobals "deed_behind" = some (some (.ref f_deed_behind)))
    (l_deed_behind : K.lookup f_deed_behind = some ⟨oc_deed_behind, od_deed_behind, .func (PySem.W.fnOf "deed_behind" "deed_behind" (defArgs s_deed_behind) (defBody s_deed_behind) (defScope s_deed_behind) .none kV_deed_behind dc_deed_behind pm_deed_behind an_deed_behind cd_deed_behind ct_deed_behind), sl_deed_behind⟩)
    (o_deed_behind : PySem.W.codeIn K cd_deed_behind "deed_behind" = true)
    (k_deed_behind : PySem.W.keepIn K (.ref f_deed_behind) = true)
    (a_guess_next : PySem.W.nsIn K mainGlobals "guess_next" = some (some (.ref f_guess_next)))
    (l_guess_next : K.lookup f_guess_next = some ⟨oc_guess_next, od_guess_next, .func (PySem.W.fnOf "guess_next" "guess_next" (defArgs s_guess_next) (defBody s_guess_next) (defScope s_guess_next) .none kV_guess_next dc_guess_next pm_guess_next an_guess_next cd_guess_next ct_guess_next), sl_guess_next⟩)
    (o_guess_next : PySem.W.codeIn K cd_guess_next "guess_next" = true)
    (k_guess_next : PySem.W.keepIn K (.ref f_guess_next) = true)
    (a_read_value : PySem.W.nsIn K mainGlobals "read_value" = some (some (.ref f_read_value)))
    (l_read_value : K.lookup f_read_value = some ⟨oc_read_value, od_read_value, .func (PySem.W.fnOf "read_value" "read_value" (defArgs s_read_value) (defBody s_read_value) (defScope s_read_value) .none kV_read_value dc_read_value pm_read_value an_read_value cd_read_value ct_read_value), sl_read_value⟩)
    (o_read_value : PySem.W.codeIn K cd_read_value "read_value" = true)
    (k_read_value : PySem.W.keepIn K (.ref f_read_value) = true)
    (a_whole_table : PySem.W.nsIn K mainGlobals "whole_table" = some (some (.ref f_whole_table)))
    (l_whole_table : K.lookup f_whole_table = some ⟨oc_whole_table, od_whole_table, .func (PySem.W.fnOf "whole_table" "whole_table" (defArgs s_whole_table) (defBody s_whole_table) (defScope s_whole_table) .none kV_whole_table dc_whole_table pm_whole_table an_whole_table cd_whole_table ct_whole_table), sl_whole_table⟩)
    (o_whole_table : PySem.W.codeIn K cd_whole_table "whole_table" = true)
    (k_whole_table : PySem.W.keepIn K (.ref f_whole_table) = true)
    (a_table_as_numbers : PySem.W.nsIn K mainGlobals "table_as_numbers" = some (some (.ref f_table_as_numbers)))
    (l_table_as_numbers : K.lookup f_table_as_numbers = some ⟨oc_table_as_numbers, od_table_as_numbers, .func (PySem.W.fnOf "table_as_numbers" "table_as_numbers" (defArgs s_table_as_numbers) (defBody s_table_as_numbers) (defScope s_table_as_numbers) .none kV_table_as_numbers dc_table_as_numbers pm_table_as_numbers an_table_as_numbers cd_table_as_numbers ct_table_as_numbers), sl_table_as_numbers⟩)
    (o_table_as_numbers : PySem.W.codeIn K cd_table_as_numbers "table_as_numbers" = true)
    (k_table_as_numbers : PySem.W.keepIn K (.ref f_table_as_numbers) = true)
    (a_found_below : PySem.W.nsIn K mainGlobals "found_below" = some (some (.ref f_found_below)))
    (l_found_below : K.lookup f_found_below = some ⟨oc_found_below, od_found_below, .func (PySem.W.fnOf "found_below" "found_below" (defArgs s_found_below) (defBody s_found_below) (defScope s_found_below) .none kV_found_below dc_found_below pm_found_below an_found_below cd_found_below ct_found_below), sl_found_below⟩)
    (o_found_below : PySem.W.codeIn K cd_found_below "found_below" = true)
    (k_found_below : PySem.W.keepIn K (.ref f_found_below) = true)
    (a_new_value : PySem.W.nsIn K mainGlobals "new_value" = some (some (.ref f_new_value)))
    (l_new_value : K.lookup f_new_value = some ⟨oc_new_value, od_new_value, .func (PySem.W.fnOf "new_value" "new_value" (defArgs s_new_value) (defBody s_new_value) (defScope s_new_value) .none kV_new_value dc_new_value pm_new_value an_new_value cd_new_value ct_new_value), sl_new_value⟩)
    (o_new_value : PySem.W.codeIn K cd_new_value "new_value" = true)
    (k_new_value : PySem.W.keepIn K (.ref f_new_value) = true)
    (a_fault_of : PySem.W.nsIn K mainGlobals "fault_of" = some (some (.ref f_fault_of)))
    (l_fault_of : K.lookup f_fault_of = some ⟨oc_fault_of, od_fault_of, .func (PySem.W.fnOf "fault_of" "fault_of" (defArgs s_fault_of) (defBody s_fault_of) (defScope s_fault_of) .none kV_fault_of dc_fault_of pm_fault_of an_fault_of cd_fault_of ct_fault_of), sl_fault_of⟩)
    (o_fault_of : PySem.W.codeIn K cd_fault_of "fault_of" = true)
    (k_fault_of : PySem.W.keepIn K (.ref f_fault_of) = true)
    (a_do_deed : PySem.W.nsIn K mainGlobals "do_deed" = some (some (.ref f_do_deed)))
    (l_do_deed : K.lookup f_do_deed = some ⟨oc_do_deed, od_do_deed, .func (PySem.W.fnOf "do_deed" "do_deed" (defArgs s_do_deed) (defBody s_do_deed) (defScope s_do_deed) .none kV_do_deed dc_do_deed pm_do_deed an_do_deed cd_do_deed ct_do_deed), sl_do_deed⟩)
    (o_do_deed : PySem.W.codeIn K cd_do_deed "do_deed" = true)
    (k_do_deed : PySem.W.keepIn K (.ref f_do_deed) = true)
    (a_run_deeds : PySem.W.nsIn K mainGlobals "run_deeds" = some (some (.ref f_run_deeds)))
    (l_run_deeds : K.lookup f_run_deeds = some ⟨oc_run_deeds, od_run_deeds, .func (PySem.W.fnOf "run_deeds" "run_deeds" (defArgs s_run_deeds) (defBody s_run_deeds) (defScope s_run_deeds) .none kV_run_deeds dc_run_deeds pm_run_deeds an_run_deeds cd_run_deeds ct_run_deeds), sl_run_deeds⟩)
    (o_run_deeds : PySem.W.codeIn K cd_run_deeds "run_deeds" = true)
    (k_run_deeds : PySem.W.keepIn K (.ref f_run_deeds) = true)
    (a_compare : PySem.W.nsIn K mainGlobals "compare" = some (some (.ref f_compare)))
    (l_compare : K.lookup f_compare = some ⟨oc_compare, od_compare, .func (PySem.W.fnOf "compare" "compare" (defArgs s_compare) (defBody s_compare) (defScope s_compare) .none kV_compare dc_compare pm_compare an_compare cd_compare ct_compare), sl_compare⟩)
    (o_compare : PySem.W.codeIn K cd_compare "compare" = true)
    (k_compare : PySem.W.keepIn K (.ref f_compare) = true)
    (a_do_call : PySem.W.nsIn K mainGlobals "do_call" = some (some (.ref f_do_call)))
    (l_do_call : K.lookup f_do_call = some ⟨oc_do_call, od_do_call, .func (PySem.W.fnOf "do_call" "do_call" (defArgs s_do_call) (defBody s_do_call) (defScope s_do_call) .none kV_do_call dc_do_call pm_do_call an_do_call cd_do_call ct_do_call), sl_do_call⟩)
    (o_do_call : PySem.W.codeIn K cd_do_call "do_call" = true)
    (k_do_call : PySem.W.keepIn K (.ref f_do_call) = true)
    (a_answer : PySem.W.nsIn K mainGlobals "answer" = some (some (.ref f_answer)))
    (l_answer : K.lookup f_answer = some ⟨oc_answer, od_answer, .func (PySem.W.fnOf "answer" "answer" (defArgs s_answer) (defBody s_answer) (defScope s_answer) .none kV_answer dc_answer pm_answer an_answer cd_answer ct_answer), sl_answer⟩)
    (o_answer : PySem.W.codeIn K cd_answer "answer" = true)
    (k_answer : PySem.W.keepIn K (.ref f_answer) = true)
    (a_answers : PySem.W.nsIn K mainGlobals "answers" = some (some (.ref f_answers)))
    (l_answers : K.lookup f_answers = some ⟨oc_answers, od_answers, .func (PySem.W.fnOf "answers" "answers" (defArgs s_answers) (defBody s_answers) (defScope s_answers) .none kV_answers dc_answers pm_answers an_answers cd_answers ct_answers), sl_answers⟩)
    (o_answers : PySem.W.codeIn K cd_answers "answers" = true)
    (k_answers : PySem.W.keepIn K (.ref f_answers) = true)
    (a_DOWN : PySem.W.nsIn K mainGlobals "DOWN" = some (some (.int 0 tk_DOWN)))
    (a_UP : PySem.W.nsIn K mainGlobals "UP" = some (some (.int 1 tk_UP)))
    (a_TOP : PySem.W.nsIn K mainGlobals "TOP" = some (some (.int 2 tk_TOP)))
    (a_WRITE : PySem.W.nsIn K mainGlobals "WRITE" = some (some (.int 3 tk_WRITE)))
    (a_ADD_deeds : PySem.W.nsIn K mainGlobals "ADD_deeds" = some (some (.int 4 tk_ADD_deeds)))
    (a_COPY : PySem.W.nsIn K mainGlobals "COPY" = some (some (.int 5 tk_COPY)))
    (a_PASTE : PySem.W.nsIn K mainGlobals "PASTE" = some (some (.int 6 tk_PASTE)))
    (a_DELETE : PySem.W.nsIn K mainGlobals "DELETE" = some (some (.int 7 tk_DELETE)))
    (a_DOUBLE : PySem.W.nsIn K mainGlobals "DOUBLE" = some (some (.int 8 tk_DOUBLE)))
    (a_FIND : PySem.W.nsIn K mainGlobals "FIND" = some (some (.int 9 tk_FIND)))
    (a_KINDS_WITH_FIELD : PySem.W.nsIn K mainGlobals "KINDS_WITH_FIELD" = some (some (.ref t_KINDS_WITH_FIELD)))
    (l_KINDS_WITH_FIELD : K.lookup t_KINDS_WITH_FIELD = some ⟨.type "tuple", dd_KINDS_WITH_FIELD, .seq #[.int 3 tk_KINDS_WITH_FIELD_0, .int 4 tk_KINDS_WITH_FIELD_1, .int 5 tk_KINDS_WITH_FIELD_2, .int 6 tk_KINDS_WITH_FIELD_3, .int 9 tk_KINDS_WITH_FIELD_4] nn_KINDS_WITH_FIELD, sl_KINDS_WITH_FIELD⟩)
    (a_KINDS_WITH_NUMBER : PySem.W.nsIn K mainGlobals "KINDS_WITH_NUMBER" = some (some (.ref t_KINDS_WITH_NUMBER)))
    (l_KINDS_WITH_NUMBER : K.lookup t_KINDS_WITH_NUMBER = some ⟨.type "tuple", dd_KINDS_WITH_NUMBER, .seq #[.int 3 tk_KINDS_WITH_NUMBER_0, .int 4 tk_KINDS_WITH_NUMBER_1, .int 9 tk_KINDS_WITH_NUMBER_2] nn_KINDS_WITH_NUMBER, sl_KINDS_WITH_NUMBER⟩)
    (a_LAST_FIELD : PySem.W.nsIn K mainGlobals "LAST_FIELD" = some (some (.int 2 tk_LAST_FIELD)))
    (a_MOST_NUMBER : PySem.W.nsIn K mainGlobals "MOST_NUMBER" = some (some (.int 999 tk_MOST_NUMBER)))
    (a_MOST_DEEDS : PySem.W.nsIn K mainGlobals "MOST_DEEDS" = some (some (.int 14 tk_MOST_DEEDS)))
    (a_DEED : PySem.W.nsIn K mainGlobals "DEED" = some (some (.int 0 tk_DEED)))
    (a_LOOP : PySem.W.nsIn K mainGlobals "LOOP" = some (some (.int 1 tk_LOOP)))
    (a_PART : PySem.W.nsIn K mainGlobals "PART" = some (some (.int 3 tk_PART)))
    (a_MOST_ROUNDS : PySem.W.nsIn K mainGlobals "MOST_ROUNDS" = some (some (.int 9 tk_MOST_ROUNDS)))
    (a_MOST_PIECES : PySem.W.nsIn K mainGlobals "MOST_PIECES" = some (some (.int 16 tk_MOST_PIECES)))
    (a_MOST_DEEP : PySem.W.nsIn K mainGlobals "MOST_DEEP" = some (some (.int 3 tk_MOST_DEEP)))
    (a_MOST_TOLD : PySem.W.nsIn K mainGlobals "MOST_TOLD" = some (some (.int 60 tk_MOST_TOLD)))
    (a_MOST_LOOPS_DEEP : PySem.W.nsIn K mainGlobals "MOST_LOOPS_DEEP" = some (some (.int 2 tk_MOST_LOOPS_DEEP)))
    (a_MOST_ROWS : PySem.W.nsIn K mainGlobals "MOST_ROWS" = some (some (.int 8 tk_MOST_ROWS)))
    (a_WELL : PySem.W.nsIn K mainGlobals "WELL" = some (some (.int 0 tk_WELL)))
    (a_NO_ROW_HERE : PySem.W.nsIn K mainGlobals "NO_ROW_HERE" = some (some (.int 1 tk_NO_ROW_HERE)))
    (a_AT_ROW_0 : PySem.W.nsIn K mainGlobals "AT_ROW_0" = some (some (.int 2 tk_AT_ROW_0)))
    (a_BEYOND_999 : PySem.W.nsIn K mainGlobals "BEYOND_999" = some (some (.int 3 tk_BEYOND_999)))
    (a_ROWS_FULL : PySem.W.nsIn K mainGlobals "ROWS_FULL" = some (some (.int 4 tk_ROWS_FULL)))
    (a_NONE_FOUND : PySem.W.nsIn K mainGlobals "NONE_FOUND" = some (some (.int 5 tk_NONE_FOUND)))
    (a_RECORD : PySem.W.nsIn K mainGlobals "RECORD" = some (some (.int 0 tk_RECORD)))
    (a_ADD_recording : PySem.W.nsIn K mainGlobals "ADD_recording" = some (some (.int 1 tk_ADD_recording)))
    (a_DROP : PySem.W.nsIn K mainGlobals "DROP" = some (some (.int 2 tk_DROP)))
    (a_COUNT : PySem.W.nsIn K mainGlobals "COUNT" = some (some (.int 3 tk_COUNT)))
    (a_LEAST : PySem.W.nsIn K mainGlobals "LEAST" = some (some (.int 4 tk_LEAST)))
    (a_IS_IT : PySem.W.nsIn K mainGlobals "IS_IT" = some (some (.int 5 tk_IS_IT)))
    (a_UNROLL : PySem.W.nsIn K mainGlobals "UNROLL" = some (some (.int 6 tk_UNROLL)))
    (a_NEXT_ONE : PySem.W.nsIn K mainGlobals "NEXT_ONE" = some (some (.int 7 tk_NEXT_ONE)))
    (a_LOOPS : PySem.W.nsIn K mainGlobals "LOOPS" = some (some (.int 8 tk_LOOPS)))
    (a_PLAY : PySem.W.nsIn K mainGlobals "PLAY" = some (some (.int 9 tk_PLAY)))
    (z_abs : PySem.W.nsIn K mainGlobals "abs" = some none)
    (z_isinstance : PySem.W.nsIn K mainGlobals "isinstance" = some none)
    (z_len : PySem.W.nsIn K mainGlobals "len" = some none)
    (z_list : PySem.W.nsIn K mainGlobals "list" = some none)
    (z_min : PySem.W.nsIn K mainGlobals "min" = some none)
    (z_range : PySem.W.nsIn K mainGlobals "range" = some none)
    : ∃ fd : FuncData, (∀ (s : Shared) (us : List Value), us.length = (["calls"] : List Str).length → BindsTo s fd ⟨us, []⟩ ((["calls"] : List Str).zip us)) ∧ ∀ base : Heap, K.In base → base.Ns mainGlobals mg → FnOk P w K mg base CX0 16 fa fd ["calls"] (spAnswers K) := by
  have e := hfa.symm.trans (PySem.W.mg_of X G a_answers)
  cases e
  have T := all_txt X G a_NotWhole x_NotWhole k_NotWhole b_NotWhole t_NotWhole i_NotWhole a_NoDeeds x_NoDeeds k_NoDeeds b_NoDeeds t_NoDeeds i_NoDeeds a_NotOnlyRounds x_NotOnlyRounds k_NotOnlyRounds b_NotOnlyRounds t_NotOnlyRounds i_NotOnlyRounds a_FullRecording x_FullRecording k_FullRecording b_FullRecording t_FullRecording i_FullRecording a_TellsTooMuch x_TellsTooMuch k_TellsTooMuch b_TellsTooMuch t_TellsTooMuch i_TellsTooMuch s_NotWhole_NotWhole s_NotWhole_NoDeeds s_NotWhole_NotOnlyRounds s_NotWhole_FullRecording s_NotWhole_TellsTooMuch s_NoDeeds_NotWhole s_NoDeeds_NoDeeds s_NoDeeds_NotOnlyRounds s_NoDeeds_FullRecording s_NoDeeds_TellsTooMuch s_NotOnlyRounds_NotWhole s_NotOnlyRounds_NoDeeds s_NotOnlyRounds_NotOnlyRounds s_NotOnlyRounds_FullRecording s_NotOnlyRounds_TellsTooMuch s_FullRecording_NotWhole s_FullRecording_NoDeeds s_FullRecording_NotOnlyRounds s_FullRecording_FullRecording s_FullRecording_TellsTooMuch s_TellsTooMuch_NotWhole s_TellsTooMuch_NoDeeds s_TellsTooMuch_NotOnlyRounds s_TellsTooMuch_FullRecording s_TellsTooMuch_TellsTooMuch a_Reader pg_Reader hd_Reader po_Reader sa_Reader mk_Reader kc_Reader a_Reader_init i_Reader_init n_Reader_numbers n_Reader_place l_Reader_init o_Reader_init k_Reader_init a_Reader_take i_Reader_take l_Reader_take o_Reader_take k_Reader_take a_Reader_finish i_Reader_finish l_Reader_finish o_Reader_finish k_Reader_finish a_DeedPiece pg_DeedPiece hd_DeedPiece po_DeedPiece sa_DeedPiece mk_DeedPiece kc_DeedPiece a_DeedPiece_init i_DeedPiece_init n_DeedPiece_deed n_DeedPiece_step l_DeedPiece_init o_DeedPiece_init k_DeedPiece_init a_LoopPiece pg_LoopPiece hd_LoopPiece po_LoopPiece sa_LoopPiece mk_LoopPiece kc_LoopPiece a_LoopPiece_init i_LoopPiece_init n_LoopPiece_rounds n_LoopPiece_row l_LoopPiece_init o_LoopPiece_init k_LoopPiece_init a_TableBoundPiece pg_TableBoundPiece hd_TableBoundPiece po_TableBoundPiece sa_TableBoundPiece mk_TableBoundPiece kc_TableBoundPiece a_TableBoundPiece_init i_TableBoundPiece_init n_TableBoundPiece_row l_TableBoundPiece_init o_TableBoundPiece_init k_TableBoundPiece_init a_Stretch pg_Stretch hd_Stretch po_Stretch sa_Stretch mk_Stretch kc_Stretch a_Stretch_init i_Stretch_init n_Stretch_deeds n_Stretch_start n_Stretch_length n_Stretch_rounds n_Stretch_deep l_Stretch_init o_Stretch_init k_Stretch_init a_Folded pg_Folded hd_Folded po_Folded sa_Folded mk_Folded kc_Folded a_Folded_init i_Folded_init n_Folded_ways n_Folded_row n_Folded_pieces n_Folded_width l_Folded_init o_Folded_init k_Folded_init a_Guess pg_Guess hd_Guess po_Guess sa_Guess mk_Guess kc_Guess a_Guess_init i_Guess_init n_Guess_period n_Guess_tail n_Guess_deed l_Guess_init o_Guess_init k_Guess_init a_Table pg_Table hd_Table po_Table sa_Table mk_Table kc_Table a_Table_init i_Table_init n_Table_rows n_Table_cursor n_Table_clipboard l_Table_init o_Table_init k_Table_init a_Recording pg_Recording hd_Recording po_Recording sa_Recording mk_Recording kc_Recording a_Recording_init i_Recording_init n_Recording_deeds l_Recording_init o_Recording_init k_Recording_init a_Recording_record i_Recording_record l_Recording_record o_Recording_record k_Recording_record a_Recording_add i_Recording_add l_Recording_add o_Recording_add k_Recording_add a_Recording_drop i_Recording_drop l_Recording_drop o_Recording_drop k_Recording_drop a_Recording_count i_Recording_count l_Recording_count o_Recording_count k_Recording_count a_Recording_least i_Recording_least l_Recording_least o_Recording_least k_Recording_least a_Recording_is_it i_Recording_is_it l_Recording_is_it o_Recording_is_it k_Recording_is_it a_Recording_unroll i_Recording_unroll l_Recording_unroll o_Recording_unroll k_Recording_unroll a_Recording_next_one i_Recording_next_one l_Recording_next_one o_Recording_next_one k_Recording_next_one a_Recording_loops i_Recording_loops l_Recording_loops o_Recording_loops k_Recording_loops a_Recording_play i_Recording_play l_Recording_play o_Recording_play k_Recording_play a_Recording_told i_Recording_told l_Recording_told o_Recording_told k_Recording_told ha_DeedPiece hn_DeedPiece ht_DeedPiece hm_DeedPiece q_DeedPiece_DeedPiece q_DeedPiece_LoopPiece q_DeedPiece_TableBoundPiece ha_LoopPiece hn_LoopPiece ht_LoopPiece hm_LoopPiece q_LoopPiece_DeedPiece q_LoopPiece_LoopPiece q_LoopPiece_TableBoundPiece ha_TableBoundPiece hn_TableBoundPiece ht_TableBoundPiece hm_TableBoundPiece q_TableBoundPiece_DeedPiece q_TableBoundPiece_LoopPiece q_TableBoundPiece_TableBoundPiece a_has_number l_has_number o_has_number k_has_number a_number_of l_number_of o_number_of k_number_of a_deed_at_round l_deed_at_round o_deed_at_round k_deed_at_round a_step_between l_step_between o_step_between k_step_between a_read_deed l_read_deed o_read_deed k_read_deed a_whole_deed l_whole_deed o_whole_deed k_whole_deed a_whole_deeds l_whole_deeds o_whole_deeds k_whole_deeds a_deeds_as_numbers l_deeds_as_numbers o_deeds_as_numbers k_deeds_as_numbers a_read_piece l_read_piece o_read_piece k_read_piece a_read_row l_read_row o_read_row k_read_row a_count_pieces l_count_pieces o_count_pieces k_count_pieces a_whole_program l_whole_program o_whole_program k_whole_program a_is_table_bound l_is_table_bound o_is_table_bound k_is_table_bound a_tell l_tell o_tell k_tell a_count_told l_count_told o_count_told k_count_told a_told_by l_told_by o_told_by k_told_by a_row_as_numbers l_row_as_numbers o_row_as_numbers k_row_as_numbers a_fold l_fold o_fold k_fold a_fold_stretch l_fold_stretch o_fold_stretch k_fold_stretch a_fold_left l_fold_left o_fold_left k_fold_left a_deed_choices l_deed_choices o_deed_choices k_deed_choices a_loop_choices l_loop_choices o_loop_choices k_loop_choices a_is_same_each_round l_is_same_each_round o_is_same_each_round k_is_same_each_round a_most_rounds l_most_rounds o_most_rounds k_most_rounds a_plain_loops l_plain_loops o_plain_loops k_plain_loops a_goes_along l_goes_along o_goes_along k_goes_along a_tail_of l_tail_of o_tail_of k_tail_of a_does_count l_does_count o_does_count k_does_count a_deed_behind l_deed_behind o_deed_behind k_deed_behind a_guess_next l_guess_next o_guess_next k_guess_next a_read_value l_read_value o_read_value k_read_value a_whole_table l_whole_table o_whole_table k_whole_table a_table_as_numbers l_table_as_numbers o_table_as_numbers k_table_as_numbers a_found_below l_found_below o_found_below k_found_below a_new_value l_new_value o_new_value k_new_value a_fault_of l_fault_of o_fault_of k_fault_of a_do_deed l_do_deed o_do_deed k_do_deed a_run_deeds l_run_deeds o_run_deeds k_run_deeds a_compare l_compare o_compare k_compare a_do_call l_do_call o_do_call k_do_call a_answer l_answer o_answer k_answer a_answers l_answers o_answers k_answers a_DOWN a_UP a_TOP a_WRITE a_ADD_deeds a_COPY a_PASTE a_DELETE a_DOUBLE a_FIND a_KINDS_WITH_FIELD l_KINDS_WITH_FIELD a_KINDS_WITH_NUMBER l_KINDS_WITH_NUMBER a_LAST_FIELD a_MOST_NUMBER a_MOST_DEEDS a_DEED a_LOOP a_PART a_MOST_ROUNDS a_MOST_PIECES a_MOST_DEEP a_MOST_TOLD a_MOST_LOOPS_DEEP a_MOST_ROWS a_WELL a_NO_ROW_HERE a_AT_ROW_0 a_BEYOND_999 a_ROWS_FULL a_NONE_FOUND a_RECORD a_ADD_recording a_DROP a_COUNT a_LEAST a_IS_IT a_UNROLL a_NEXT_ONE a_LOOPS a_PLAY z_abs z_isinstance z_len z_list z_min z_range
  exact ⟨PySem.W.fnOf "answers" "answers" (defArgs s_answers) (defBody s_answers) (defScope s_answers) .none kV_answers dc_answers pm_answers an_answers cd_answers ct_answers, fun s us hu => match us, hu with | [_], _ => .of_eq rfl, fun base _ _ => ok_answers T (fun_mk (st := s_answers) l_answers o_answers k_answers)⟩

end Lf
open PySem PySem.W PyProof.Rows
set_option maxRecDepth 100000 in
set_option maxHeartbeats 8000000 in
theorem PySem.Challenge.cw_loopsfound_s01_answers_holds : PySem.Challenge.rw_loopsfound_s01_answers.Holds := by
  w_on; k_headS; (case hw => exact ⟨[.list [.int 2]], by decide +kernel, by decide +kernel⟩)
  k_fillS
  refine L2.walk_specK (r := PySem.Challenge.rw_loopsfound_s01_answers) (k := 16) (CX := L2.CX0) (ps := ["calls"]) (sp := Lf.spAnswers) (by decide +kernel) rfl rfl ⟨rfl, by decide, by decide⟩ (fun w h Y => PySem.W.kIn_of Y) ?F ?S (fun _ _ _ _ z => z)
  case F =>
    intro w mg fa h Y KX G hmg
    refine' Lf.all_mk KX G hmg ?a_NotWhole ?x_NotWhole ?k_NotWhole ?b_NotWhole ?t_NotWhole ?i_NotWhole ?a_NoDeeds ?x_NoDeeds ?k_NoDeeds ?b_NoDeeds ?t_NoDeeds ?i_NoDeeds ?a_NotOnlyRounds ?x_NotOnlyRounds ?k_NotOnlyRounds ?b_NotOnlyRounds ?t_NotOnlyRounds ?i_NotOnlyRounds ?a_FullRecording ?x_FullRecording ?k_FullRecording ?b_FullRecording ?t_FullRecording ?i_FullRecording ?a_TellsTooMuch ?x_TellsTooMuch ?k_TellsTooMuch ?b_TellsTooMuch ?t_TellsTooMuch ?i_TellsTooMuch ?s_NotWhole_NotWhole ?s_NotWhole_NoDeeds ?s_NotWhole_NotOnlyRounds ?s_NotWhole_FullRecording ?s_NotWhole_TellsTooMuch ?s_NoDeeds_NotWhole ?s_NoDeeds_NoDeeds ?s_NoDeeds_NotOnlyRounds ?s_NoDeeds_FullRecording ?s_NoDeeds_TellsTooMuch ?s_NotOnlyRounds_NotWhole ?s_NotOnlyRounds_NoDeeds ?s_NotOnlyRounds_NotOnlyRounds ?s_NotOnlyRounds_FullRecording ?s_NotOnlyRounds_TellsTooMuch ?s_FullRecording_NotWhole ?s_FullRecording_NoDeeds ?s_FullRecording_NotOnlyRounds ?s_FullRecording_FullRecording ?s_FullRecording_TellsTooMuch ?s_TellsTooMuch_NotWhole ?s_TellsTooMuch_NoDeeds ?s_TellsTooMuch_NotOnlyRounds ?s_TellsTooMuch_FullRecording ?s_TellsTooMuch_TellsTooMuch ?a_Reader ?pg_Reader ?hd_Reader ?po_Reader ?sa_Reader ?mk_Reader ?kc_Reader ?a_Reader_init ?i_Reader_init ?n_Reader_numbers ?n_Reader_place ?l_Reader_init ?o_Reader_init ?k_Reader_init ?a_Reader_take ?i_Reader_take ?l_Reader_take ?o_Reader_take ?k_Reader_take ?a_Reader_finish ?i_Reader_finish ?l_Reader_finish ?o_Reader_finish ?k_Reader_finish ?a_DeedPiece ?pg_DeedPiece ?hd_DeedPiece ?po_DeedPiece ?sa_DeedPiece ?mk_DeedPiece ?kc_DeedPiece ?a_DeedPiece_init ?i_DeedPiece_init ?n_DeedPiece_deed ?n_DeedPiece_step ?l_DeedPiece_init ?o_DeedPiece_init ?k_DeedPiece_init ?a_LoopPiece ?pg_LoopPiece ?hd_LoopPiece ?po_LoopPiece ?sa_LoopPiece ?mk_LoopPiece ?kc_LoopPiece ?a_LoopPiece_init ?i_LoopPiece_init ?n_LoopPiece_rounds ?n_LoopPiece_row ?l_LoopPiece_init ?o_LoopPiece_init ?k_LoopPiece_init ?a_TableBoundPiece ?pg_TableBoundPiece ?hd_TableBoundPiece ?po_TableBoundPiece ?sa_TableBoundPiece ?mk_TableBoundPiece ?kc_TableBoundPiece ?a_TableBoundPiece_init ?i_TableBoundPiece_init ?n_TableBoundPiece_row ?l_TableBoundPiece_init ?o_TableBoundPiece_init ?k_TableBoundPiece_init ?a_Stretch ?pg_Stretch ?hd_Stretch ?po_Stretch ?sa_Stretch ?mk_Stretch ?kc_Stretch ?a_Stretch_init ?i_Stretch_init ?n_Stretch_deeds ?n_Stretch_start ?n_Stretch_length ?n_Stretch_rounds ?n_Stretch_deep ?l_Stretch_init ?o_Stretch_init ?k_Stretch_init ?a_Folded ?pg_Folded ?hd_Folded ?po_Folded ?sa_Folded ?mk_Folded ?kc_Folded ?a_Folded_init ?i_Folded_init ?n_Folded_ways ?n_Folded_row ?n_Folded_pieces ?n_Folded_width ?l_Folded_init ?o_Folded_init ?k_Folded_init ?a_Guess ?pg_Guess ?hd_Guess ?po_Guess ?sa_Guess ?mk_Guess ?kc_Guess ?a_Guess_init ?i_Guess_init ?n_Guess_period ?n_Guess_tail ?n_Guess_deed ?l_Guess_init ?o_Guess_init ?k_Guess_init ?a_Table ?pg_Table ?hd_Table ?po_Table ?sa_Table ?mk_Table ?kc_Table ?a_Table_init ?i_Table_init ?n_Table_rows ?n_Table_cursor ?n_Table_clipboard ?l_Table_init ?o_Table_init ?k_Table_init ?a_Recording ?pg_Recording ?hd_Recording ?po_Recording ?sa_Recording ?mk_Recording ?kc_Recording ?a_Recording_init ?i_Recording_init ?n_Recording_deeds ?l_Recording_init ?o_Recording_init ?k_Recording_init ?a_Recording_record ?i_Recording_record ?l_Recording_record ?o_Recording_record ?k_Recording_record ?a_Recording_add ?i_Recording_add ?l_Recording_add ?o_Recording_add ?k_Recording_add ?a_Recording_drop ?i_Recording_drop ?l_Recording_drop ?o_Recording_drop ?k_Recording_drop ?a_Recording_count ?i_Recording_count ?l_Recording_count ?o_Recording_count ?k_Recording_count ?a_Recording_least ?i_Recording_least ?l_Recording_least ?o_Recording_least ?k_Recording_least ?a_Recording_is_it ?i_Recording_is_it ?l_Recording_is_it ?o_Recording_is_it ?k_Recording_is_it ?a_Recording_unroll ?i_Recording_unroll ?l_Recording_unroll ?o_Recording_unroll ?k_Recording_unroll ?a_Recording_next_one ?i_Recording_next_one ?l_Recording_next_one ?o_Recording_next_one ?k_Recording_next_one ?a_Recording_loops ?i_Recording_loops ?l_Recording_loops ?o_Recording_loops ?k_Recording_loops ?a_Recording_play ?i_Recording_play ?l_Recording_play ?o_Recording_play ?k_Recording_play ?a_Recording_told ?i_Recording_told ?l_Recording_told ?o_Recording_told ?k_Recording_told ?ha_DeedPiece ?hn_DeedPiece ?ht_DeedPiece ?hm_DeedPiece ?q_DeedPiece_DeedPiece ?q_DeedPiece_LoopPiece ?q_DeedPiece_TableBoundPiece ?ha_LoopPiece ?hn_LoopPiece ?ht_LoopPiece ?hm_LoopPiece ?q_LoopPiece_DeedPiece ?q_LoopPiece_LoopPiece ?q_LoopPiece_TableBoundPiece ?ha_TableBoundPiece ?hn_TableBoundPiece ?ht_TableBoundPiece ?hm_TableBoundPiece ?q_TableBoundPiece_DeedPiece ?q_TableBoundPiece_LoopPiece ?q_TableBoundPiece_TableBoundPiece ?a_has_number ?l_has_number ?o_has_number ?k_has_number ?a_number_of ?l_number_of ?o_number_of ?k_number_of ?a_deed_at_round ?l_deed_at_round ?o_deed_at_round ?k_deed_at_round ?a_step_between ?l_step_between ?o_step_between ?k_step_between ?a_read_deed ?l_read_deed ?o_read_deed ?k_read_deed ?a_whole_deed ?l_whole_deed ?o_whole_deed ?k_whole_deed ?a_whole_deeds ?l_whole_deeds ?o_whole_deeds ?k_whole_deeds ?a_deeds_as_numbers ?l_deeds_as_numbers ?o_deeds_as_numbers ?k_deeds_as_numbers ?a_read_piece ?l_read_piece ?o_read_piece ?k_read_piece ?a_read_row ?l_read_row ?o_read_row ?k_read_row ?a_count_pieces ?l_count_pieces ?o_count_pieces ?k_count_pieces ?a_whole_program ?l_whole_program ?o_whole_program ?k_whole_program ?a_is_table_bound ?l_is_table_bound ?o_is_table_bound ?k_is_table_bound ?a_tell ?l_tell ?o_tell ?k_tell ?a_count_told ?l_count_told ?o_count_told ?k_count_told ?a_told_by ?l_told_by ?o_told_by ?k_told_by ?a_row_as_numbers ?l_row_as_numbers ?o_row_as_numbers ?k_row_as_numbers ?a_fold ?l_fold ?o_fold ?k_fold ?a_fold_stretch ?l_fold_stretch ?o_fold_stretch ?k_fold_stretch ?a_fold_left ?l_fold_left ?o_fold_left ?k_fold_left ?a_deed_choices ?l_deed_choices ?o_deed_choices ?k_deed_choices ?a_loop_choices ?l_loop_choices ?o_loop_choices ?k_loop_choices ?a_is_same_each_round ?l_is_same_each_round ?o_is_same_each_round ?k_is_same_each_round ?a_most_rounds ?l_most_rounds ?o_most_rounds ?k_most_rounds ?a_plain_loops ?l_plain_loops ?o_plain_loops ?k_plain_loops ?a_goes_along ?l_goes_along ?o_goes_along ?k_goes_along ?a_tail_of ?l_tail_of ?o_tail_of ?k_tail_of ?a_does_count ?l_does_count ?o_does_count ?k_does_count ?a_deed_behind ?l_deed_behind ?o_deed_behind ?k_deed_behind ?a_guess_next ?l_guess_next ?o_guess_next ?k_guess_next ?a_read_value ?l_read_value ?o_read_value ?k_read_value ?a_whole_table ?l_whole_table ?o_whole_table ?k_whole_table ?a_table_as_numbers ?l_table_as_numbers ?o_table_as_numbers ?k_table_as_numbers ?a_found_below ?l_found_below ?o_found_below ?k_found_below ?a_new_value ?l_new_value ?o_new_value ?k_new_value ?a_fault_of ?l_fault_of ?o_fault_of ?k_fault_of ?a_do_deed ?l_do_deed ?o_do_deed ?k_do_deed ?a_run_deeds ?l_run_deeds ?o_run_deeds ?k_run_deeds ?a_compare ?l_compare ?o_compare ?k_compare ?a_do_call ?l_do_call ?o_do_call ?k_do_call ?a_answer ?l_answer ?o_answer ?k_answer ?a_answers ?l_answers ?o_answers ?k_answers ?a_DOWN ?a_UP ?a_TOP ?a_WRITE ?a_ADD_deeds ?a_COPY ?a_PASTE ?a_DELETE ?a_DOUBLE ?a_FIND ?a_KINDS_WITH_FIELD ?l_KINDS_WITH_FIELD ?a_KINDS_WITH_NUMBER ?l_KINDS_WITH_NUMBER ?a_LAST_FIELD ?a_MOST_NUMBER ?a_MOST_DEEDS ?a_DEED ?a_LOOP ?a_PART ?a_MOST_ROUNDS ?a_MOST_PIECES ?a_MOST_DEEP ?a_MOST_TOLD ?a_MOST_LOOPS_DEEP ?a_MOST_ROWS ?a_WELL ?a_NO_ROW_HERE ?a_AT_ROW_0 ?a_BEYOND_999 ?a_ROWS_FULL ?a_NONE_FOUND ?a_RECORD ?a_ADD_recording ?a_DROP ?a_COUNT ?a_LEAST ?a_IS_IT ?a_UNROLL ?a_NEXT_ONE ?a_LOOPS ?a_PLAY ?z_abs ?z_isinstance ?z_len ?z_list ?z_min ?z_range
    (case a_NotWhole => k_is)
    (case x_NotWhole => k_exc)
    (case k_NotWhole => k_is)
    (case b_NotWhole => k_is)
    (case t_NotWhole => k_is)
    (case i_NotWhole => k_is)
    (case a_NoDeeds => k_is)
    (case x_NoDeeds => k_exc)
    (case k_NoDeeds => k_is)
    (case b_NoDeeds => k_is)
    (case t_NoDeeds => k_is)
    (case i_NoDeeds => k_is)
    (case a_NotOnlyRounds => k_is)
    (case x_NotOnlyRounds => k_exc)
    (case k_NotOnlyRounds => k_is)
    (case b_NotOnlyRounds => k_is)
    (case t_NotOnlyRounds => k_is)
    (case i_NotOnlyRounds => k_is)
    (case a_FullRecording => k_is)
    (case x_FullRecording => k_exc)
    (case k_FullRecording => k_is)
    (case b_FullRecording => k_is)
    (case t_FullRecording => k_is)
    (case i_FullRecording => k_is)
    (case a_TellsTooMuch => k_is)
    (case x_TellsTooMuch => k_exc)
    (case k_TellsTooMuch => k_is)
    (case b_TellsTooMuch => k_is)
    (case t_TellsTooMuch => k_is)
    (case i_TellsTooMuch => k_is)
    (case s_NotWhole_NotWhole => first | rfl | k_is)
    (case s_NotWhole_NoDeeds => first | rfl | k_is)
    (case s_NotWhole_NotOnlyRounds => first | rfl | k_is)
    (case s_NotWhole_FullRecording => first | rfl | k_is)
    (case s_NotWhole_TellsTooMuch => first | rfl | k_is)
    (case s_NoDeeds_NotWhole => first | rfl | k_is)
    (case s_NoDeeds_NoDeeds => first | rfl | k_is)
    (case s_NoDeeds_NotOnlyRounds => first | rfl | k_is)
    (case s_NoDeeds_FullRecording => first | rfl | k_is)
    (case s_NoDeeds_TellsTooMuch => first | rfl | k_is)
    (case s_NotOnlyRounds_NotWhole => first | rfl | k_is)
    (case s_NotOnlyRounds_NoDeeds => first | rfl | k_is)
    (case s_NotOnlyRounds_NotOnlyRounds => first | rfl | k_is)
    (case s_NotOnlyRounds_FullRecording => first | rfl | k_is)
    (case s_NotOnlyRounds_TellsTooMuch => first | rfl | k_is)
    (case s_FullRecording_NotWhole => first | rfl | k_is)
    (case s_FullRecording_NoDeeds => first | rfl | k_is)
    (case s_FullRecording_NotOnlyRounds => first | rfl | k_is)
    (case s_FullRecording_FullRecording => first | rfl | k_is)
    (case s_FullRecording_TellsTooMuch => first | rfl | k_is)
    (case s_TellsTooMuch_NotWhole => first | rfl | k_is)
    (case s_TellsTooMuch_NoDeeds => first | rfl | k_is)
    (case s_TellsTooMuch_NotOnlyRounds => first | rfl | k_is)
    (case s_TellsTooMuch_FullRecording => first | rfl | k_is)
    (case s_TellsTooMuch_TellsTooMuch => first | rfl | k_is)
    (case a_Reader => k_is)
    (case pg_Reader => k_is)
    (case hd_Reader => k_is)
    (case po_Reader => k_is)
    (case sa_Reader => k_is)
    (case mk_Reader => k_is)
    (case kc_Reader => k_is)
    (case a_Reader_init => k_is)
    (case i_Reader_init => k_is)
    (case n_Reader_numbers => k_is)
    (case n_Reader_place => k_is)
    (case l_Reader_init => k_is)
    (case o_Reader_init => k_is)
    (case k_Reader_init => k_is)
    (case a_Reader_take => k_is)
    (case i_Reader_take => k_is)
    (case l_Reader_take => k_is)
    (case o_Reader_take => k_is)
    (case k_Reader_take => k_is)
    (case a_Reader_finish => k_is)
    (case i_Reader_finish => k_is)
    (case l_Reader_finish => k_is)
    (case o_Reader_finish => k_is)
    (case k_Reader_finish => k_is)
    (case a_DeedPiece => k_is)
    (case pg_DeedPiece => k_is)
    (case hd_DeedPiece => k_is)
    (case po_DeedPiece => k_is)
    (case sa_DeedPiece => k_is)
    (case mk_DeedPiece => k_is)
    (case kc_DeedPiece => k_is)
    (case a_DeedPiece_init => k_is)
    (case i_DeedPiece_init => k_is)
    (case n_DeedPiece_deed => k_is)
    (case n_DeedPiece_step => k_is)
    (case l_DeedPiece_init => k_is)
    (case o_DeedPiece_init => k_is)
    (case k_DeedPiece_init => k_is)
    (case a_LoopPiece => k_is)
    (case pg_LoopPiece => k_is)
    (case hd_LoopPiece => k_is)
    (case po_LoopPiece => k_is)
    (case sa_LoopPiece => k_is)
    (case mk_LoopPiece => k_is)
    (case kc_LoopPiece => k_is)
    (case a_LoopPiece_init => k_is)
    (case i_LoopPiece_init => k_is)
    (case n_LoopPiece_rounds => k_is)
    (case n_LoopPiece_row => k_is)
    (case l_LoopPiece_init => k_is)
    (case o_LoopPiece_init => k_is)
    (case k_LoopPiece_init => k_is)
    (case a_TableBoundPiece => k_is)
    (case pg_TableBoundPiece => k_is)
    (case hd_TableBoundPiece => k_is)
    (case po_TableBoundPiece => k_is)
    (case sa_TableBoundPiece => k_is)
    (case mk_TableBoundPiece => k_is)
    (case kc_TableBoundPiece => k_is)
    (case a_TableBoundPiece_init => k_is)
    (case i_TableBoundPiece_init => k_is)
    (case n_TableBoundPiece_row => k_is)
    (case l_TableBoundPiece_init => k_is)
    (case o_TableBoundPiece_init => k_is)
    (case k_TableBoundPiece_init => k_is)
    (case a_Stretch => k_is)
    (case pg_Stretch => k_is)
    (case hd_Stretch => k_is)
    (case po_Stretch => k_is)
    (case sa_Stretch => k_is)
    (case mk_Stretch => k_is)
    (case kc_Stretch => k_is)
    (case a_Stretch_init => k_is)
    (case i_Stretch_init => k_is)
    (case n_Stretch_deeds => k_is)
    (case n_Stretch_start => k_is)
    (case n_Stretch_length => k_is)
    (case n_Stretch_rounds => k_is)
    (case n_Stretch_deep => k_is)
    (case l_Stretch_init => k_is)
    (case o_Stretch_init => k_is)
    (case k_Stretch_init => k_is)
    (case a_Folded => k_is)
    (case pg_Folded => k_is)
    (case hd_Folded => k_is)
    (case po_Folded => k_is)
    (case sa_Folded => k_is)
    (case mk_Folded => k_is)
    (case kc_Folded => k_is)
    (case a_Folded_init => k_is)
    (case i_Folded_init => k_is)
    (case n_Folded_ways => k_is)
    (case n_Folded_row => k_is)
    (case n_Folded_pieces => k_is)
    (case n_Folded_width => k_is)
    (case l_Folded_init => k_is)
    (case o_Folded_init => k_is)
    (case k_Folded_init => k_is)
    (case a_Guess => k_is)
    (case pg_Guess => k_is)
    (case hd_Guess => k_is)
    (case po_Guess => k_is)
    (case sa_Guess => k_is)
    (case mk_Guess => k_is)
    (case kc_Guess => k_is)
    (case a_Guess_init => k_is)
    (case i_Guess_init => k_is)
    (case n_Guess_period => k_is)
    (case n_Guess_tail => k_is)
    (case n_Guess_deed => k_is)
    (case l_Guess_init => k_is)
    (case o_Guess_init => k_is)
    (case k_Guess_init => k_is)
    (case a_Table => k_is)
    (case pg_Table => k_is)
    (case hd_Table => k_is)
    (case po_Table => k_is)
    (case sa_Table => k_is)
    (case mk_Table => k_is)
    (case kc_Table => k_is)
    (case a_Table_init => k_is)
    (case i_Table_init => k_is)
    (case n_Table_rows => k_is)
    (case n_Table_cursor => k_is)
    (case n_Table_clipboard => k_is)
    (case l_Table_init => k_is)
    (case o_Table_init => k_is)
    (case k_Table_init => k_is)
    (case a_Recording => k_is)
    (case pg_Recording => k_is)
    (case hd_Recording => k_is)
    (case po_Recording => k_is)
    (case sa_Recording => k_is)
    (case mk_Recording => k_is)
    (case kc_Recording => k_is)
    (case a_Recording_init => k_is)
    (case i_Recording_init => k_is)
    (case n_Recording_deeds => k_is)
    (case l_Recording_init => k_is)
    (case o_Recording_init => k_is)
    (case k_Recording_init => k_is)
    (case a_Recording_record => k_is)
    (case i_Recording_record => k_is)
    (case l_Recording_record => k_is)
    (case o_Recording_record => k_is)
    (case k_Recording_record => k_is)
    (case a_Recording_add => k_is)
    (case i_Recording_add => k_is)
    (case l_Recording_add => k_is)
    (case o_Recording_add => k_is)
    (case k_Recording_add => k_is)
    (case a_Recording_drop => k_is)
    (case i_Recording_drop => k_is)
    (case l_Recording_drop => k_is)
    (case o_Recording_drop => k_is)
    (case k_Recording_drop => k_is)
    (case a_Recording_count => k_is)
    (case i_Recording_count => k_is)
    (case l_Recording_count => k_is)
    (case o_Recording_count => k_is)
    (case k_Recording_count => k_is)
    (case a_Recording_least => k_is)
    (case i_Recording_least => k_is)
    (case l_Recording_least => k_is)
    (case o_Recording_least => k_is)
    (case k_Recording_least => k_is)
    (case a_Recording_is_it => k_is)
    (case i_Recording_is_it => k_is)
    (case l_Recording_is_it => k_is)
    (case o_Recording_is_it => k_is)
    (case k_Recording_is_it => k_is)
    (case a_Recording_unroll => k_is)
    (case i_Recording_unroll => k_is)
    (case l_Recording_unroll => k_is)
    (case o_Recording_unroll => k_is)
    (case k_Recording_unroll => k_is)
    (case a_Recording_next_one => k_is)
    (case i_Recording_next_one => k_is)
    (case l_Recording_next_one => k_is)
    (case o_Recording_next_one => k_is)
    (case k_Recording_next_one => k_is)
    (case a_Recording_loops => k_is)
    (case i_Recording_loops => k_is)
    (case l_Recording_loops => k_is)
    (case o_Recording_loops => k_is)
    (case k_Recording_loops => k_is)
    (case a_Recording_play => k_is)
    (case i_Recording_play => k_is)
    (case l_Recording_play => k_is)
    (case o_Recording_play => k_is)
    (case k_Recording_play => k_is)
    (case a_Recording_told => k_is)
    (case i_Recording_told => k_is)
    (case l_Recording_told => k_is)
    (case o_Recording_told => k_is)
    (case k_Recording_told => k_is)
    (case ha_DeedPiece => k_is)
    (case hn_DeedPiece => k_is)
    (case ht_DeedPiece => k_is)
    (case hm_DeedPiece => k_is)
    (case q_DeedPiece_DeedPiece => first | rfl | k_is)
    (case q_DeedPiece_LoopPiece => first | rfl | k_is)
    (case q_DeedPiece_TableBoundPiece => first | rfl | k_is)
    (case ha_LoopPiece => k_is)
    (case hn_LoopPiece => k_is)
    (case ht_LoopPiece => k_is)
    (case hm_LoopPiece => k_is)
    (case q_LoopPiece_DeedPiece => first | rfl | k_is)
    (case q_LoopPiece_LoopPiece => first | rfl | k_is)
    (case q_LoopPiece_TableBoundPiece => first | rfl | k_is)
    (case ha_TableBoundPiece => k_is)
    (case hn_TableBoundPiece => k_is)
    (case ht_TableBoundPiece => k_is)
    (case hm_TableBoundPiece => k_is)
    (case q_TableBoundPiece_DeedPiece => first | rfl | k_is)
    (case q_TableBoundPiece_LoopPiece => first | rfl | k_is)
    (case q_TableBoundPiece_TableBoundPiece => first | rfl | k_is)
    (case a_has_number => k_is)
    (case l_has_number => k_is)
    (case o_has_number => k_is)
    (case k_has_number => k_is)
    (case a_number_of => k_is)
    (case l_number_of => k_is)
    (case o_number_of => k_is)
    (case k_number_of => k_is)
    (case a_deed_at_round => k_is)
    (case l_deed_at_round => k_is)
    (case o_deed_at_round => k_is)
    (case k_deed_at_round => k_is)
    (case a_step_between => k_is)
    (case l_step_between => k_is)
    (case o_step_between => k_is)
    (case k_step_between => k_is)
    (case a_read_deed => k_is)
    (case l_read_deed => k_is)
    (case o_read_deed => k_is)
    (case k_read_deed => k_is)
    (case a_whole_deed => k_is)
    (case l_whole_deed => k_is)
    (case o_whole_deed => k_is)
    (case k_whole_deed => k_is)
    (case a_whole_deeds => k_is)
    (case l_whole_deeds => k_is)
    (case o_whole_deeds => k_is)
    (case k_whole_deeds => k_is)
    (case a_deeds_as_numbers => k_is)
    (case l_deeds_as_numbers => k_is)
    (case o_deeds_as_numbers => k_is)
    (case k_deeds_as_numbers => k_is)
    (case a_read_piece => k_is)
    (case l_read_piece => k_is)
    (case o_read_piece => k_is)
    (case k_read_piece => k_is)
    (case a_read_row => k_is)
    (case l_read_row => k_is)
    (case o_read_row => k_is)
    (case k_read_row => k_is)
    (case a_count_pieces => k_is)
    (case l_count_pieces => k_is)
    (case o_count_pieces => k_is)
    (case k_count_pieces => k_is)
    (case a_whole_program => k_is)
    (case l_whole_program => k_is)
    (case o_whole_program => k_is)
    (case k_whole_program => k_is)
    (case a_is_table_bound => k_is)
    (case l_is_table_bound => k_is)
    (case o_is_table_bound => k_is)
    (case k_is_table_bound => k_is)
    (case a_tell => k_is)
    (case l_tell => k_is)
    (case o_tell => k_is)
    (case k_tell => k_is)
    (case a_count_told => k_is)
    (case l_count_told => k_is)
    (case o_count_told => k_is)
    (case k_count_told => k_is)
    (case a_told_by => k_is)
    (case l_told_by => k_is)
    (case o_told_by => k_is)
    (case k_told_by => k_is)
    (case a_row_as_numbers => k_is)
    (case l_row_as_numbers => k_is)
    (case o_row_as_numbers => k_is)
    (case k_row_as_numbers => k_is)
    (case a_fold => k_is)
    (case l_fold => k_is)
    (case o_fold => k_is)
    (case k_fold => k_is)
    (case a_fold_stretch => k_is)
    (case l_fold_stretch => k_is)
    (case o_fold_stretch => k_is)
    (case k_fold_stretch => k_is)
    (case a_fold_left => k_is)
    (case l_fold_left => k_is)
    (case o_fold_left => k_is)
    (case k_fold_left => k_is)
    (case a_deed_choices => k_is)
    (case l_deed_choices => k_is)
    (case o_deed_choices => k_is)
    (case k_deed_choices => k_is)
    (case a_loop_choices => k_is)
    (case l_loop_choices => k_is)
    (case o_loop_choices => k_is)
    (case k_loop_choices => k_is)
    (case a_is_same_each_round => k_is)
    (case l_is_same_each_round => k_is)
    (case o_is_same_each_round => k_is)
    (case k_is_same_each_round => k_is)
    (case a_most_rounds => k_is)
    (case l_most_rounds => k_is)
    (case o_most_rounds => k_is)
    (case k_most_rounds => k_is)
    (case a_plain_loops => k_is)
    (case l_plain_loops => k_is)
    (case o_plain_loops => k_is)
    (case k_plain_loops => k_is)
    (case a_goes_along => k_is)
    (case l_goes_along => k_is)
    (case o_goes_along => k_is)
    (case k_goes_along => k_is)
    (case a_tail_of => k_is)
    (case l_tail_of => k_is)
    (case o_tail_of => k_is)
    (case k_tail_of => k_is)
    (case a_does_count => k_is)
    (case l_does_count => k_is)
    (case o_does_count => k_is)
    (case k_does_count => k_is)
    (case a_deed_behind => k_is)
    (case l_deed_behind => k_is)
    (case o_deed_behind => k_is)
    (case k_deed_behind => k_is)
    (case a_guess_next => k_is)
    (case l_guess_next => k_is)
    (case o_guess_next => k_is)
    (case k_guess_next => k_is)
    (case a_read_value => k_is)
    (case l_read_value => k_is)
    (case o_read_value => k_is)
    (case k_read_value => k_is)
    (case a_whole_table => k_is)
    (case l_whole_table => k_is)
    (case o_whole_table => k_is)
    (case k_whole_table => k_is)
    (case a_table_as_numbers => k_is)
    (case l_table_as_numbers => k_is)
    (case o_table_as_numbers => k_is)
    (case k_table_as_numbers => k_is)
    (case a_found_below => k_is)
    (case l_found_below => k_is)
    (case o_found_below => k_is)
    (case k_found_below => k_is)
    (case a_new_value => k_is)
    (case l_new_value => k_is)
    (case o_new_value => k_is)
    (case k_new_value => k_is)
    (case a_fault_of => k_is)
    (case l_fault_of => k_is)
    (case o_fault_of => k_is)
    (case k_fault_of => k_is)
    (case a_do_deed => k_is)
    (case l_do_deed => k_is)
    (case o_do_deed => k_is)
    (case k_do_deed => k_is)
    (case a_run_deeds => k_is)
    (case l_run_deeds => k_is)
    (case o_run_deeds => k_is)
    (case k_run_deeds => k_is)
    (case a_compare => k_is)
    (case l_compare => k_is)
    (case o_compare => k_is)
    (case k_compare => k_is)
    (case a_do_call => k_is)
    (case l_do_call => k_is)
    (case o_do_call => k_is)
    (case k_do_call => k_is)
    (case a_answer => k_is)
    (case l_answer => k_is)
    (case o_answer => k_is)
    (case k_answer => k_is)
    (case a_answers => k_is)
    (case l_answers => k_is)
    (case o_answers => k_is)
    (case k_answers => k_is)
    (case a_DOWN => k_is)
    (case a_UP => k_is)
    (case a_TOP => k_is)
    (case a_WRITE => k_is)
    (case a_ADD_deeds => k_is)
    (case a_COPY => k_is)
    (case a_PASTE => k_is)
    (case a_DELETE => k_is)
    (case a_DOUBLE => k_is)
    (case a_FIND => k_is)
    (case a_KINDS_WITH_FIELD => k_is)
    (case l_KINDS_WITH_FIELD => k_is)
    (case a_KINDS_WITH_NUMBER => k_is)
    (case l_KINDS_WITH_NUMBER => k_is)
    (case a_LAST_FIELD => k_is)
    (case a_MOST_NUMBER => k_is)
    (case a_MOST_DEEDS => k_is)
    (case a_DEED => k_is)
    (case a_LOOP => k_is)
    (case a_PART => k_is)
    (case a_MOST_ROUNDS => k_is)
    (case a_MOST_PIECES => k_is)
    (case a_MOST_DEEP => k_is)
    (case a_MOST_TOLD => k_is)
    (case a_MOST_LOOPS_DEEP => k_is)
    (case a_MOST_ROWS => k_is)
    (case a_WELL => k_is)
    (case a_NO_ROW_HERE => k_is)
    (case a_AT_ROW_0 => k_is)
    (case a_BEYOND_999 => k_is)
    (case a_ROWS_FULL => k_is)
    (case a_NONE_FOUND => k_is)
    (case a_RECORD => k_is)
    (case a_ADD_recording => k_is)
    (case a_DROP => k_is)
    (case a_COUNT => k_is)
    (case a_LEAST => k_is)
    (case a_IS_IT => k_is)
    (case a_UNROLL => k_is)
    (case a_NEXT_ONE => k_is)
    (case a_LOOPS => k_is)
    (case a_PLAY => k_is)
    (case z_abs => k_is)
    (case z_isinstance => k_is)
    (case z_len => k_is)
    (case z_list => k_is)
    (case z_min => k_is)
    (case z_range => k_is)
  case S =>
    intro K H xs a hO hwi hask hx
    cases hx with
    | cons h1 h2 =>
      cases h2
      cases h1 with
      | lst hs ha =>
        have e := L2.ints_dw a.1 _ ha
        subst e
        exact ⟨_, a.1, rfl, hs, hask, fun H' p hp => .lst (L2.SqL.of hp) (L2.dw_ints _)⟩
